/- Joined: XRat3done XRat3dtwo XRat3dmix XRat3d XRat3e. Conditions: none. -/
import Derived.Test.YtkhkkaobooednaaProg
import Derived.Test.YtkhkkaobooednaaB5
import Derived.Test.YtkhkkaobooednaaB1
import Derived.Deep.DeepCutAuto
import Derived.Test.YtkhkkaobooednaaB4
import Derived.Test.YtkhkkaobooednaaB2
namespace Go.Proofs.Ytkhkkaobooednaa
open Go.RowKit Nt
set_option linter.unusedVariables false

end Go.Proofs.Ytkhkkaobooednaa
namespace Go.Proofs.Ytkhkkaobooednaa
open Go.RowKit Nt
set_option linter.unusedVariables false

end Go.Proofs.Ytkhkkaobooednaa
namespace Go.Proofs.Ytkhkkaobooednaa
open Go.RowKit Nt
set_option linter.unusedVariables false

end Go.Proofs.Ytkhkkaobooednaa
namespace Go.Proofs.Ytkhkkaobooednaa
open Go.RowKit Nt
set_option linter.unusedVariables false

end Go.Proofs.Ytkhkkaobooednaa
namespace Go.Proofs.Ytkhkkaobooednaa
open Go.RowKit Nt
set_option linter.unusedVariables false

end Go.Proofs.Ytkhkkaobooednaa
