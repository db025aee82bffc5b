/- Plain facts on joining strings (no program in sight). Conditions: none. -/
import Derived.WalkKit
namespace Go.Proofs.YtbikkbamcleinaaDoor
namespace Jn
/-- The bytes of the strings l with b between them. -/
def joinL (b : ByteArray) : List ByteArray → List UInt8
  | [] => []
  | [x] => x.data.toList
  | x :: y :: r => x.data.toList ++ (b.data.toList ++ joinL b (y :: r))
/-- What Join answers. -/
def join (b : ByteArray) (l : List ByteArray) : ByteArray := ⟨(joinL b l).toArray⟩
theorem joinL_snoc (b : ByteArray) (l : List ByteArray) (x : ByteArray) (h : l ≠ []) : joinL b (l ++ [x]) = joinL b l ++ (b.data.toList ++ x.data.toList) := by
  induction l with
  | nil => exact absurd rfl h
  | cons y r ih =>
    cases r with
    | nil => simp [joinL]
    | cons z r =>
      have := ih (by simp)
      simp only [List.cons_append] at this ⊢
      simp only [joinL, this, List.append_assoc]
theorem joinL_one (b x : ByteArray) : joinL b ([] ++ [x]) = x.data.toList := rfl
/-- The sum of the lengths. -/
def total (l : List ByteArray) : Nat := (l.map ByteArray.size).foldr (· + ·) 0
theorem total_snoc (l : List ByteArray) (x : ByteArray) : total (l ++ [x]) = total l + x.size := by
  induction l with
  | nil => simp [total]
  | cons y r ih => simp [total] at ih ⊢; omega
theorem total_take_le (l : List ByteArray) (k : Nat) : total (l.take k) ≤ total l := by
  induction l generalizing k with
  | nil => simp [total]
  | cons y r ih =>
    cases k with
    | zero => simp [total]
    | succ k => have := ih k; simp [total] at this ⊢; omega
theorem joinL_len (b : ByteArray) (l : List ByteArray) : (joinL b l).length ≤ total l + l.length * b.size := by
  induction l with
  | nil => simp [joinL]
  | cons y r ih =>
    cases r with
    | nil => simp [joinL, total]
    | cons z r =>
      simp only [joinL, List.length_append] at ih ⊢
      have e1 : y.data.toList.length = y.size := by simp
      have e2 : b.data.toList.length = b.size := by simp
      have e3 : total (y :: z :: r) = y.size + total (z :: r) := by simp [total]
      have e4 : (y :: z :: r).length * b.size = b.size + (z :: r).length * b.size := by
        rw [List.length_cons, Nat.add_mul, Nat.one_mul, Nat.add_comm]
      omega
theorem take_snocB (l : List ByteArray) (k : Nat) (h : k < l.length) : l.take (k + 1) = l.take k ++ [l[k]] := List.take_succ_eq_append_getElem h
end Jn
end Go.Proofs.YtbikkbamcleinaaDoor
