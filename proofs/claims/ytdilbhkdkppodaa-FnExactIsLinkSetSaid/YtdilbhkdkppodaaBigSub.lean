/- Big integers: BigIntSub of the program. Conditions: none. -/
import Derived.Test.YtdilbhkdkppodaaProg
import Derived.Test.YtdilbhkdkppodaaBigSum
namespace Go.Proofs.Ytdilbhkdkppodaa
open Go.RowKit Nt
set_option linter.unusedVariables false

theorem okB_flip {t : Bool} {ys : List Int} (h : 0 < ys.length) : okB (!t) ys = okB t ys := by simp [okB, h]
theorem zOf_flip (t : Bool) (ys : List Int) : zOf (!t) ys = -(zOf t ys) := by unfold zOf; exact signed_neg t _
theorem zOf_nil (t : Bool) {ys : List Int} (h : ys.length = 0) : zOf t ys = 0 := by
  rw [List.eq_nil_of_length_eq_zero h]
  cases t <;> simp [zOf, toN, val, signed]
end Go.Proofs.Ytdilbhkdkppodaa
