/- Joined: XRat3done XRat3dtwo XRat3dmix XRat3d XRat3e. Conditions: none. -/
import Derived.Test.YtodoiekbjjiocaaProg
import Derived.Test.YtodoiekbjjiocaaB5
import Derived.Test.YtodoiekbjjiocaaB1
import Derived.Deep.DeepCutAuto
import Derived.Test.YtodoiekbjjiocaaB4
import Derived.Test.YtodoiekbjjiocaaB2
namespace Go.Proofs.Ytodoiekbjjiocaa
open Go.RowKit Nt
set_option linter.unusedVariables false

end Go.Proofs.Ytodoiekbjjiocaa
namespace Go.Proofs.Ytodoiekbjjiocaa
open Go.RowKit Nt
set_option linter.unusedVariables false

end Go.Proofs.Ytodoiekbjjiocaa
namespace Go.Proofs.Ytodoiekbjjiocaa
open Go.RowKit Nt
set_option linter.unusedVariables false

end Go.Proofs.Ytodoiekbjjiocaa
namespace Go.Proofs.Ytodoiekbjjiocaa
open Go.RowKit Nt
set_option linter.unusedVariables false

end Go.Proofs.Ytodoiekbjjiocaa
namespace Go.Proofs.Ytodoiekbjjiocaa
open Go.RowKit Nt
set_option linter.unusedVariables false

end Go.Proofs.Ytodoiekbjjiocaa
