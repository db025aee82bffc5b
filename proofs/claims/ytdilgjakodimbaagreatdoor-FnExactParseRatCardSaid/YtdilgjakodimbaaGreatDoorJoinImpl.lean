/- Contracts of impl.joinAll, impl.Join and impl.PadZeros. Conditions: at most 2^20 strings of at most 2^20 bytes together, a separator of at most 2^20 bytes. -/
import Derived.Test.YtdilgjakodimbaaGreatDoorJoin
import Derived.Test.YtdilgjakodimbaaGreatDoorShelf
namespace Go.Proofs.YtdilgjakodimbaaGreatDoor
open Go.RowKit Jn
set_option linter.unusedVariables false

end Go.Proofs.YtdilgjakodimbaaGreatDoor
