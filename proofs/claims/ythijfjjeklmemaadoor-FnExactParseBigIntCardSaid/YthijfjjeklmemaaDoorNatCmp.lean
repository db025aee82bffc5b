/- Contracts of l02Cmp and NatCmp of the model, of cmp.Compare at int and of NatCmp of the program. Conditions: none. -/
import Derived.Test.YthijfjjeklmemaaDoorProg
import Derived.Test.YthijfjjeklmemaaDoorNatOk
namespace Go.Proofs.YthijfjjeklmemaaDoor
open Go.RowKit Nt
set_option linter.unusedVariables false

theorem sgn_lt {a b : Nat} (h : a < b) : sgn a b = -1 := by rw [sgn, if_pos h]
theorem sgn_gt {a b : Nat} (h : b < a) : sgn a b = 1 := by rw [sgn, if_neg (by omega), if_neg (by omega)]
theorem sgn_eq {a b : Nat} (h : a = b) : sgn a b = 0 := by rw [sgn, if_neg (by omega), if_pos h]
/-- What NatCmp answers. -/
def cmpI (xs ys : List Int) : Int := if okI xs = true ∧ okI ys = true then sgn (val (toN xs)) (val (toN ys)) else 0

end Go.Proofs.YthijfjjeklmemaaDoor
