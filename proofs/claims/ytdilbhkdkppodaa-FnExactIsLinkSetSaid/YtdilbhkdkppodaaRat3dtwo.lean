/- Fractions: sums, in the model. Conditions: none. -/
import Derived.Test.YtdilbhkdkppodaaProg
import Derived.Test.YtdilbhkdkppodaaRat3c
import Derived.Test.YtdilbhkdkppodaaOpenB
import Derived.Deep.DeepCutAuto
namespace Go.Proofs.Ytdilbhkdkppodaa
open Go.RowKit Nt
set_option linter.unusedVariables false

end Go.Proofs.Ytdilbhkdkppodaa
