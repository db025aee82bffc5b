/- Big integers: BigIntNeg, BigIntAdd and BigIntSub of the model and of the program. Conditions: none. -/
import Derived.Test.YtdilbhkdkppodaaProg
import Derived.Test.YtdilbhkdkppodaaBigMake
namespace Go.Proofs.Ytdilbhkdkppodaa
open Go.RowKit Nt
set_option linter.unusedVariables false

end Go.Proofs.Ytdilbhkdkppodaa
