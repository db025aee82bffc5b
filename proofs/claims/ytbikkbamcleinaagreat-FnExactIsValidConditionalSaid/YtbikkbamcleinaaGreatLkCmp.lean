/- Links: how two links compare. Conditions: none. -/
import Derived.Test.YtbikkbamcleinaaGreatLkBase
namespace Go.Proofs.YtbikkbamcleinaaGreat
open Go.RowKit Nt Fr
set_option linter.unusedVariables false

/-- How two integers compare. -/
def cmpI2 (x y : Int) : Int := if x < y then -1 else if y < x then 1 else 0
/-- How the ends of two links compare. -/
def cmpK (A B C E : Int) : Int := if cmpI2 A C ≠ 0 then cmpI2 A C else cmpI2 B E
/-- Is the first before the second? -/
def lessK (A B C E : Int) : Bool := decide (A < C) || (decide (A = C) && decide (B < E))
theorem cmpK_less (A B C E : Int) : (cmpK A B C E < 0) ↔ lessK A B C E = true := by
  unfold cmpK cmpI2 lessK
  simp only [Bool.or_eq_true, Bool.and_eq_true, decide_eq_true_eq]
  split <;> (repeat' split at *) <;> omega
theorem cmpK_zero (A B C E : Int) : cmpK A B C E = 0 ↔ (A = C ∧ B = E) := by
  unfold cmpK cmpI2
  split <;> (repeat' split at *) <;> omega
theorem cmpK_range (A B C E : Int) : -1 ≤ cmpK A B C E ∧ cmpK A B C E ≤ 1 := by
  unfold cmpK cmpI2
  split <;> (repeat' split) <;> omega
set_option maxRecDepth 100000 in
set_option maxHeartbeats 4000000 in
theorem cmpCompare_any (x y : Int) (w : World) : Calls Tryz.prog 101 #[.int .i64 x, .int .i64 y] w fun e w' => e = .returned (.int .i64 (cmpI2 x y)) ∧ Below w.heap.size w w' := by
  by_cases h1 : x < y
  · rw [show cmpI2 x y = -1 from if_pos h1]
    go_enter Tryz.func101, Tryz.ntmps101
    go_wp2
    all_goals go_ret
    all_goals exact ⟨rfl, Below.refl _ _⟩
  · by_cases h2 : y < x
    · rw [show cmpI2 x y = 1 by unfold cmpI2; rw [if_neg h1, if_pos h2]]
      go_enter Tryz.func101, Tryz.ntmps101
      go_wp2
      all_goals go_ret
      all_goals exact ⟨rfl, Below.refl _ _⟩
    · rw [show cmpI2 x y = 0 by unfold cmpI2; rw [if_neg h1, if_neg h2]]
      go_enter Tryz.func101, Tryz.ntmps101
      go_wp2
      all_goals go_ret
      all_goals exact ⟨rfl, Below.refl _ _⟩
end Go.Proofs.YtbikkbamcleinaaGreat
