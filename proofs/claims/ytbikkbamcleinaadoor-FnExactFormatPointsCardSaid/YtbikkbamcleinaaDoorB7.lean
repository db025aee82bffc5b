/- Joined: XRat3done XRat3dtwo XRat3dmix XRat3d XRat3e. Conditions: none. -/
import Derived.Test.YtbikkbamcleinaaDoorProg
import Derived.Test.YtbikkbamcleinaaDoorB5
import Derived.Test.YtbikkbamcleinaaDoorB1
import Derived.Deep.DeepCutAuto
import Derived.Test.YtbikkbamcleinaaDoorB4
import Derived.Test.YtbikkbamcleinaaDoorB2
namespace Go.Proofs.YtbikkbamcleinaaDoor
open Go.RowKit Nt
set_option linter.unusedVariables false

end Go.Proofs.YtbikkbamcleinaaDoor
namespace Go.Proofs.YtbikkbamcleinaaDoor
open Go.RowKit Nt
set_option linter.unusedVariables false

end Go.Proofs.YtbikkbamcleinaaDoor
namespace Go.Proofs.YtbikkbamcleinaaDoor
open Go.RowKit Nt
set_option linter.unusedVariables false

end Go.Proofs.YtbikkbamcleinaaDoor
namespace Go.Proofs.YtbikkbamcleinaaDoor
open Go.RowKit Nt
set_option linter.unusedVariables false

end Go.Proofs.YtbikkbamcleinaaDoor
namespace Go.Proofs.YtbikkbamcleinaaDoor
open Go.RowKit Nt
set_option linter.unusedVariables false

end Go.Proofs.YtbikkbamcleinaaDoor
