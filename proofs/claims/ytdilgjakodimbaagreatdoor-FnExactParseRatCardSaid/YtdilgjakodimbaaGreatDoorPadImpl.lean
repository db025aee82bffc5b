/- The contract of impl.PadZeros. Condition: the string is at most 2^20 bytes long. -/
import Derived.Test.YtdilgjakodimbaaGreatDoorJoinImpl
import Derived.Test.YtdilgjakodimbaaGreatDoorPad
namespace Go.Proofs.YtdilgjakodimbaaGreatDoor
open Go.RowKit Jn
set_option linter.unusedVariables false
end Go.Proofs.YtdilgjakodimbaaGreatDoor
