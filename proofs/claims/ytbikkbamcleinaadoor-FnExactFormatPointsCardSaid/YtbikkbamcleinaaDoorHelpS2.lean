/- Contracts of the laws' helpers toStringS (a copy in new memory) and szStringS (a bound on lengths). -/
import Derived.Test.YtbikkbamcleinaaDoorHelpS
import Derived.Test.YtbikkbamcleinaaDoorJoinMath
namespace Go.Proofs.YtbikkbamcleinaaDoor
open Go.RowKit Jn
set_option linter.unusedVariables false

/-- What szStringS answers: an integer that is not negative only if all fits into 'left'. -/
def SzS (xs : List ByteArray) (left : Nat) (w : World) (e : Ending) (w' : World) : Prop :=
  ∃ z : Int, e = .returned (.int .i64 z) ∧ w = w' ∧ (0 ≤ z → xs.length + total xs ≤ left) ∧ z ≤ left ∧ -1 ≤ z

end Go.Proofs.YtbikkbamcleinaaDoor
