/- Fractions that are equal in all fields and elements, in the model and in the program. Conditions: none. -/
import Derived.Test.YtdilbhkdkppodaaGreatProg
import Derived.Test.YtdilbhkdkppodaaGreatRatMath
namespace Go.Proofs.YtdilbhkdkppodaaGreat
open Go.RowKit Nt
set_option linter.unusedVariables false

/-- What RatEqual answers. -/
def eqR (s : Bool) (xs ys : List Int) (t : Bool) (us vs : List Int) : Bool := (s == t) && (decide (xs = us) && decide (ys = vs))
end Go.Proofs.YtdilbhkdkppodaaGreat
