/- Big integers: BigIntNeg, BigIntAdd and BigIntSub of the model and of the program. Conditions: none. -/
import Derived.Test.YtbblfledkmcfmabProg
import Derived.Test.YtbblfledkmcfmabBigMake
namespace Go.Proofs.Ytbblfledkmcfmab
open Go.RowKit Nt
set_option linter.unusedVariables false

end Go.Proofs.Ytbblfledkmcfmab
