/- Joined: XRat3done XRat3dtwo XRat3dmix XRat3d XRat3e. Conditions: none. -/
import Derived.Test.YtljlibigphgffaaGreatDoorProg
import Derived.Test.YtljlibigphgffaaGreatDoorB5
import Derived.Test.YtljlibigphgffaaGreatDoorB1
import Derived.Deep.DeepCutAuto
import Derived.Test.YtljlibigphgffaaGreatDoorB4
import Derived.Test.YtljlibigphgffaaGreatDoorB2
namespace Go.Proofs.YtljlibigphgffaaGreatDoor
open Go.RowKit Nt
set_option linter.unusedVariables false

end Go.Proofs.YtljlibigphgffaaGreatDoor
namespace Go.Proofs.YtljlibigphgffaaGreatDoor
open Go.RowKit Nt
set_option linter.unusedVariables false

end Go.Proofs.YtljlibigphgffaaGreatDoor
namespace Go.Proofs.YtljlibigphgffaaGreatDoor
open Go.RowKit Nt
set_option linter.unusedVariables false

end Go.Proofs.YtljlibigphgffaaGreatDoor
namespace Go.Proofs.YtljlibigphgffaaGreatDoor
open Go.RowKit Nt
set_option linter.unusedVariables false

end Go.Proofs.YtljlibigphgffaaGreatDoor
namespace Go.Proofs.YtljlibigphgffaaGreatDoor
open Go.RowKit Nt
set_option linter.unusedVariables false

end Go.Proofs.YtljlibigphgffaaGreatDoor
