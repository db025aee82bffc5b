/- No library contract is wanted at this program. Conditions: none. -/
import Derived.Shelf.Small.Bits
import Derived.Shelf.Strconv.Itoa0
import Derived.Shelf.Bits.Mul64
import Derived.Test.YtpdggdakkdenoaaProg
namespace Go.Proofs
end Go.Proofs
