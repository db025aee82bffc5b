/- Fractions: sums, in the model. Conditions: none. -/
import Derived.Test.YtdilbhkdkppodaaProg
import Derived.Test.YtdilbhkdkppodaaRat3done
import Derived.Test.YtdilbhkdkppodaaRat3dtwo
import Derived.Test.YtdilbhkdkppodaaRat3dmix
namespace Go.Proofs.Ytdilbhkdkppodaa
open Go.RowKit Nt
set_option linter.unusedVariables false

end Go.Proofs.Ytdilbhkdkppodaa
