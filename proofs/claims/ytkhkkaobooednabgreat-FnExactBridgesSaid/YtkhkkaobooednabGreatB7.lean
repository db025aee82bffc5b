/- Joined: XRat3done XRat3dtwo XRat3dmix XRat3d XRat3e. Conditions: none. -/
import Derived.Test.YtkhkkaobooednabGreatProg
import Derived.Test.YtkhkkaobooednabGreatB5
import Derived.Test.YtkhkkaobooednabGreatB1
import Derived.Deep.DeepCutAuto
import Derived.Test.YtkhkkaobooednabGreatB4
import Derived.Test.YtkhkkaobooednabGreatB2
namespace Go.Proofs.YtkhkkaobooednabGreat
open Go.RowKit Nt
set_option linter.unusedVariables false

end Go.Proofs.YtkhkkaobooednabGreat
namespace Go.Proofs.YtkhkkaobooednabGreat
open Go.RowKit Nt
set_option linter.unusedVariables false

end Go.Proofs.YtkhkkaobooednabGreat
namespace Go.Proofs.YtkhkkaobooednabGreat
open Go.RowKit Nt
set_option linter.unusedVariables false

end Go.Proofs.YtkhkkaobooednabGreat
namespace Go.Proofs.YtkhkkaobooednabGreat
open Go.RowKit Nt
set_option linter.unusedVariables false

end Go.Proofs.YtkhkkaobooednabGreat
namespace Go.Proofs.YtkhkkaobooednabGreat
open Go.RowKit Nt
set_option linter.unusedVariables false

end Go.Proofs.YtkhkkaobooednabGreat
