/- No library contract is wanted at this program. Conditions: none. -/
import Derived.Shelf.Small.Bits
import Derived.Shelf.Bits.Mul64
import Derived.Test.YtodoiekbjjiocaaProg
namespace Go.Proofs
end Go.Proofs
