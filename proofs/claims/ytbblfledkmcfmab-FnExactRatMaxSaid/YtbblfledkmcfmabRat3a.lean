/- Fractions: the functions of the model. Conditions: none. -/
import Derived.Test.YtbblfledkmcfmabProg
import Derived.Test.YtbblfledkmcfmabRat2
import Derived.Test.YtbblfledkmcfmabBigOf
import Derived.Deep.DeepCutAuto
namespace Go.Proofs.Ytbblfledkmcfmab
open Go.RowKit Nt
set_option linter.unusedVariables false

end Go.Proofs.Ytbblfledkmcfmab
