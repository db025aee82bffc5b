/- Joined: XRat3done XRat3dtwo XRat3dmix XRat3d XRat3e. Conditions: none. -/
import Derived.Test.YtkhkkaobooednaaGreatDoorProg
import Derived.Test.YtkhkkaobooednaaGreatDoorB5
import Derived.Test.YtkhkkaobooednaaGreatDoorB1
import Derived.Deep.DeepCutAuto
import Derived.Test.YtkhkkaobooednaaGreatDoorB4
import Derived.Test.YtkhkkaobooednaaGreatDoorB2
namespace Go.Proofs.YtkhkkaobooednaaGreatDoor
open Go.RowKit Nt
set_option linter.unusedVariables false

end Go.Proofs.YtkhkkaobooednaaGreatDoor
namespace Go.Proofs.YtkhkkaobooednaaGreatDoor
open Go.RowKit Nt
set_option linter.unusedVariables false

end Go.Proofs.YtkhkkaobooednaaGreatDoor
namespace Go.Proofs.YtkhkkaobooednaaGreatDoor
open Go.RowKit Nt
set_option linter.unusedVariables false

end Go.Proofs.YtkhkkaobooednaaGreatDoor
namespace Go.Proofs.YtkhkkaobooednaaGreatDoor
open Go.RowKit Nt
set_option linter.unusedVariables false

end Go.Proofs.YtkhkkaobooednaaGreatDoor
namespace Go.Proofs.YtkhkkaobooednaaGreatDoor
open Go.RowKit Nt
set_option linter.unusedVariables false

end Go.Proofs.YtkhkkaobooednaaGreatDoor
