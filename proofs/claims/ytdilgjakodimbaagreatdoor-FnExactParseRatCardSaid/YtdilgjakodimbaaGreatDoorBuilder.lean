/- Contracts of strings.Builder's copyCheck, WriteString and String at this program. Conditions: as each states. -/
import Derived.Test.YtdilgjakodimbaaGreatDoorProg
import Derived.Test.YtdilgjakodimbaaGreatDoorShelf
import Derived.Test.YtdilgjakodimbaaGreatDoorMem
import Derived.Lib.AppendStr
namespace Go.Proofs.YtdilgjakodimbaaGreatDoor
open Go.RowKit
set_option linter.unusedVariables false

end Go.Proofs.YtdilgjakodimbaaGreatDoor
