/- Joined: XRat3done XRat3dtwo XRat3dmix XRat3d XRat3e. Conditions: none. -/
import Derived.Test.YtpdggdakkdenoaaProg
import Derived.Test.YtpdggdakkdenoaaB5
import Derived.Test.YtpdggdakkdenoaaB1
import Derived.Deep.DeepCutAuto
import Derived.Test.YtpdggdakkdenoaaB4
import Derived.Test.YtpdggdakkdenoaaB2
namespace Go.Proofs.Ytpdggdakkdenoaa
open Go.RowKit Nt
set_option linter.unusedVariables false

end Go.Proofs.Ytpdggdakkdenoaa
namespace Go.Proofs.Ytpdggdakkdenoaa
open Go.RowKit Nt
set_option linter.unusedVariables false

end Go.Proofs.Ytpdggdakkdenoaa
namespace Go.Proofs.Ytpdggdakkdenoaa
open Go.RowKit Nt
set_option linter.unusedVariables false

end Go.Proofs.Ytpdggdakkdenoaa
namespace Go.Proofs.Ytpdggdakkdenoaa
open Go.RowKit Nt
set_option linter.unusedVariables false

end Go.Proofs.Ytpdggdakkdenoaa
namespace Go.Proofs.Ytpdggdakkdenoaa
open Go.RowKit Nt
set_option linter.unusedVariables false

end Go.Proofs.Ytpdggdakkdenoaa
