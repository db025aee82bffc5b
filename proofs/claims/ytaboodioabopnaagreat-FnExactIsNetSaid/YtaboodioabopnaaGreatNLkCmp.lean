/- Links: how two links compare. Conditions: none. -/
import Derived.Test.YtaboodioabopnaaGreatNLkBase
namespace Go.Proofs.YtaboodioabopnaaGreat
open Go.RowKit Nt Fr
set_option linter.unusedVariables false
def cmpI2 (x y : Int) : Int := if x < y then -1 else if y < x then 1 else 0
set_option maxRecDepth 100000 in
set_option maxHeartbeats 4000000 in
theorem cmpCompare_any (x y : Int) (w : World) : Calls Tryz.prog 145 #[.int .i64 x, .int .i64 y] w fun e w' => e = .returned (.int .i64 (cmpI2 x y)) ∧ Below w.heap.size w w' := by
 by_cases h1 : x < y
 · rw [show cmpI2 x y = -1 from if_pos h1]
   go_enter Tryz.func145, Tryz.ntmps145
   go_wp2
   all_goals go_ret
   all_goals exact ⟨rfl, Below.refl _ _⟩
 · by_cases h2 : y < x
   · rw [show cmpI2 x y = 1 by unfold cmpI2; rw [if_neg h1, if_pos h2]]
     go_enter Tryz.func145, Tryz.ntmps145
     go_wp2
     all_goals go_ret
     all_goals exact ⟨rfl, Below.refl _ _⟩
   · rw [show cmpI2 x y = 0 by unfold cmpI2; rw [if_neg h1, if_neg h2]]
     go_enter Tryz.func145, Tryz.ntmps145
     go_wp2
     all_goals go_ret
     all_goals exact ⟨rfl, Below.refl _ _⟩
end Go.Proofs.YtaboodioabopnaaGreat
