/- Link sets as graphs: their ends. Conditions: none. -/
import Derived.Test.YtodoiekbjjiocaaGreatJPk
import Derived.Test.YtodoiekbjjiocaaGreatJSetAid
import Derived.Test.YtodoiekbjjiocaaGreatJGraphMath
namespace Go.Proofs.YtodoiekbjjiocaaGreat
open Go.RowKit Nt Fr
set_option linter.unusedVariables false
theorem okSet_ok {zs : List Lr} (h : okSet zs = true) : ∀ z ∈ zs,okK z.A z.B z.P z.Q z.R = true:=by
 intro z hz
 have:=(Bool.and_eq_true _ _ ▸ h : zs.all Lr.ok = true ∧ ascB zs = true).1
 exact List.all_eq_true.mp this z hz
end Go.Proofs.YtodoiekbjjiocaaGreat
