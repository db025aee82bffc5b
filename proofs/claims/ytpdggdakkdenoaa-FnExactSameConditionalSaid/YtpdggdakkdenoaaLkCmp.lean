/- Links: how two links compare. Conditions: none. -/
import Derived.Test.YtpdggdakkdenoaaLkBase
namespace Go.Proofs.Ytpdggdakkdenoaa
open Go.RowKit Nt Fr
set_option linter.unusedVariables false

/-- How two integers compare. -/
def cmpI2 (x y : Int) : Int := if x < y then -1 else if y < x then 1 else 0
/-- How the ends of two links compare. -/
def cmpK (A B C E : Int) : Int := if cmpI2 A C ≠ 0 then cmpI2 A C else cmpI2 B E
/-- Is the first before the second? -/
def lessK (A B C E : Int) : Bool := decide (A < C) || (decide (A = C) && decide (B < E))
theorem cmpK_less (A B C E : Int) : (cmpK A B C E < 0) ↔ lessK A B C E = true := by
  unfold cmpK cmpI2 lessK
  simp only [Bool.or_eq_true, Bool.and_eq_true, decide_eq_true_eq]
  split <;> (repeat' split at *) <;> omega
theorem cmpK_zero (A B C E : Int) : cmpK A B C E = 0 ↔ (A = C ∧ B = E) := by
  unfold cmpK cmpI2
  split <;> (repeat' split at *) <;> omega
theorem cmpK_range (A B C E : Int) : -1 ≤ cmpK A B C E ∧ cmpK A B C E ≤ 1 := by
  unfold cmpK cmpI2
  split <;> (repeat' split) <;> omega
end Go.Proofs.Ytpdggdakkdenoaa
