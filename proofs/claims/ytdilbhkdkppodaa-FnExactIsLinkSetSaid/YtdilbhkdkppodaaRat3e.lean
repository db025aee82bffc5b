/- Fractions: opposites and differences, in the model. Conditions: none. -/
import Derived.Test.YtdilbhkdkppodaaProg
import Derived.Test.YtdilbhkdkppodaaRat3d
import Derived.Test.YtdilbhkdkppodaaRatNeg
import Derived.Deep.DeepCutAuto
import Derived.Test.YtdilbhkdkppodaaFresh
namespace Go.Proofs.Ytdilbhkdkppodaa
open Go.RowKit Nt
set_option linter.unusedVariables false

end Go.Proofs.Ytdilbhkdkppodaa
