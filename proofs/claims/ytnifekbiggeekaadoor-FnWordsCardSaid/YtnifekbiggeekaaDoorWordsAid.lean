/- Small closed facts for the law of words. Conditions: none. -/
import Derived.Test.YtnifekbiggeekaaDoorSplitMath
import Derived.Test.YtnifekbiggeekaaDoorJoinMath
import Derived.Test.YtnifekbiggeekaaDoorWordMath
import Derived.Test.YtnifekbiggeekaaDoorJoinBack
namespace Go.Proofs.YtnifekbiggeekaaDoor
open Sp Jn Wm
theorem nm_x1 : nm ⟨#[120, 49]⟩ = true := by decide +kernel
theorem lines_ab : (lines ⟨#[97, 10, 98, 10]⟩).length = 2 := by decide +kernel
theorem total_app (a b : List ByteArray) : total (a ++ b) = total a + total b := by
  induction a with
  | nil => simp [total]
  | cons y r ih => simp [total] at ih ⊢; omega
theorem ext_size (s : ByteArray) (a b : Nat) (h : b ≤ s.size) : (s.extract a b).size = b - a := by
  have e : (s.extract a b).size = (s.extract a b).data.toList.length := by rw [Array.length_toList]; rfl
  have e2 : s.data.toList.length = s.size := by rw [Array.length_toList]; rfl
  rw [e, ext_data, List.length_take, List.length_drop]
  omega
theorem scan_total (s b : ByteArray) (k : Nat) (hk : k ≤ s.size) : total (scan s b k).1 ≤ (scan s b k).2 := by
  induction k with
  | zero => simp [scan, total]
  | succ k ih =>
    have ih := ih (by omega)
    have hle := (scan_le s b k).1
    by_cases hc : cuts b (s.data.toList.getD k 0) = true
    · rw [scan_yes s b k hc, total_app]
      have h1 : total [s.extract (scan s b k).2 k] = k - (scan s b k).2 := by simp [total, ext_size s _ k (by omega)]
      rw [h1]
      simp only
      omega
    · rw [scan_no s b k (by simpa using hc)]
      exact ih
theorem parts_total (s b : ByteArray) : total (parts s b) ≤ s.size := by
  unfold parts
  have h := scan_total s b s.size (Nat.le_refl _)
  have hle := (scan_le s b s.size).1
  rw [total_app]
  have h1 : total [s.extract (scan s b s.size).2 s.size] = s.size - (scan s b s.size).2 := by simp [total, ext_size s _ s.size (Nat.le_refl _)]
  omega
end Go.Proofs.YtnifekbiggeekaaDoor
