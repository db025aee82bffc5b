/- Plain facts on bytes and lists (no program in sight), for the laws of chapter 2. Conditions: none. -/
import Derived.WalkKit
namespace Go.Proofs.Ytnifekbiggeekaa
namespace Wm

/-- A byte is an ASCII digit. -/
def dg (c : UInt8) : Bool := decide (48 ≤ c.toNat) && decide (c.toNat ≤ 57)
/-- All bytes of a list are digits. -/
def digAll (l : List UInt8) : Bool := l.all dg
/-- What IsDigits answers. -/
def digs (s : ByteArray) : Bool := digAll s.data.toList && decide (0 < s.size)

theorem take_snoc (s : ByteArray) (k : Nat) (h : k < s.size) : s.data.toList.take (k + 1) = s.data.toList.take k ++ [s[k]] := by
  rw [List.take_succ_eq_append_getElem (by simpa using h)]; rfl
theorem digAll_snoc (s : ByteArray) (k : Nat) (h : k < s.size) : digAll (s.data.toList.take (k + 1)) = (digAll (s.data.toList.take k) && dg s[k]) := by
  rw [take_snoc s k h]; simp [digAll, List.all_append]
theorem digAll_full (s : ByteArray) (k : Nat) (h : ¬ k < s.size) : s.data.toList.take k = s.data.toList := by
  rw [List.take_of_length_le]
  have e : s.data.toList.length = s.size := by simp
  omega
theorem digs_false (s : ByteArray) (k : Nat) (h : k < s.size) (hd : dg s[k] = false) : digs s = false := by
  have : digAll s.data.toList = false := by
    unfold digAll
    rw [List.all_eq_false]
    refine ⟨s[k], ?_, by simp [hd]⟩
    have : s[k] = s.data.toList[k]'(by simpa using h) := rfl
    rw [this]
    exact List.getElem_mem _
  simp [digs, this]
theorem digs_true (s : ByteArray) (k : Nat) (h : ¬ k < s.size) (hd : digAll (s.data.toList.take k) = true) : digs s = decide (0 < s.size) := by
  rw [digAll_full s k h] at hd
  simp [digs, hd]
theorem dg_of (c : UInt8) (h1 : 48 ≤ (c.toNat : Int)) (h2 : (c.toNat : Int) ≤ 57) : dg c = true := by
  simp only [dg, Bool.and_eq_true, decide_eq_true_eq]; omega
theorem dg_lo (c : UInt8) (h1 : (c.toNat : Int) < 48) : dg c = false := by
  simp only [dg, Bool.and_eq_false_iff, decide_eq_false_iff_not]; omega
theorem dg_hi (c : UInt8) (h1 : 57 < (c.toNat : Int)) : dg c = false := by
  simp only [dg, Bool.and_eq_false_iff, decide_eq_false_iff_not]; omega
theorem isEmpty_size (s : ByteArray) : (!s.toList.isEmpty) = decide (0 < s.size) := by
  rw [ByteArray.toList_eq]
  have e : s.data.toList.length = s.size := by simp
  cases h : s.data.toList with
  | nil => rw [h] at e; simp at e; simp [← e]
  | cons a l => rw [h] at e; simp at e; simp; omega
end Wm
end Go.Proofs.Ytnifekbiggeekaa
