/- Plain facts on bytes and lists (no program in sight), for the laws of chapter 2. Conditions: none. -/
import Derived.WalkKit
namespace Go.Proofs.YtbikkbamcleinaaDoor
namespace Wm

/-- A byte is an ASCII digit. -/
def dg (c : UInt8) : Bool := decide (48 ≤ c.toNat) && decide (c.toNat ≤ 57)
/-- All bytes of a list are digits. -/
def digAll (l : List UInt8) : Bool := l.all dg
/-- What IsDigits answers. -/
def digs (s : ByteArray) : Bool := digAll s.data.toList && decide (0 < s.size)

theorem take_snoc (s : ByteArray) (k : Nat) (h : k < s.size) : s.data.toList.take (k + 1) = s.data.toList.take k ++ [s[k]] := by
  rw [List.take_succ_eq_append_getElem (by simpa using h)]; rfl
theorem digAll_snoc (s : ByteArray) (k : Nat) (h : k < s.size) : digAll (s.data.toList.take (k + 1)) = (digAll (s.data.toList.take k) && dg s[k]) := by
  rw [take_snoc s k h]; simp [digAll, List.all_append]
theorem digAll_full (s : ByteArray) (k : Nat) (h : ¬ k < s.size) : s.data.toList.take k = s.data.toList := by
  rw [List.take_of_length_le]
  have e : s.data.toList.length = s.size := by simp
  omega
theorem digs_false (s : ByteArray) (k : Nat) (h : k < s.size) (hd : dg s[k] = false) : digs s = false := by
  have : digAll s.data.toList = false := by
    unfold digAll
    rw [List.all_eq_false]
    refine ⟨s[k], ?_, by simp [hd]⟩
    have : s[k] = s.data.toList[k]'(by simpa using h) := rfl
    rw [this]
    exact List.getElem_mem _
  simp [digs, this]
theorem digs_true (s : ByteArray) (k : Nat) (h : ¬ k < s.size) (hd : digAll (s.data.toList.take k) = true) : digs s = decide (0 < s.size) := by
  rw [digAll_full s k h] at hd
  simp [digs, hd]
theorem dg_of (c : UInt8) (h1 : 48 ≤ (c.toNat : Int)) (h2 : (c.toNat : Int) ≤ 57) : dg c = true := by
  simp only [dg, Bool.and_eq_true, decide_eq_true_eq]; omega
theorem dg_lo (c : UInt8) (h1 : (c.toNat : Int) < 48) : dg c = false := by
  simp only [dg, Bool.and_eq_false_iff, decide_eq_false_iff_not]; omega
theorem dg_hi (c : UInt8) (h1 : 57 < (c.toNat : Int)) : dg c = false := by
  simp only [dg, Bool.and_eq_false_iff, decide_eq_false_iff_not]; omega
theorem isEmpty_size (s : ByteArray) : (!s.toList.isEmpty) = decide (0 < s.size) := by
  rw [ByteArray.toList_eq]
  have e : s.data.toList.length = s.size := by simp
  cases h : s.data.toList with
  | nil => rw [h] at e; simp at e; simp [← e]
  | cons a l => rw [h] at e; simp at e; simp; omega

/-- Byte c may stand at place j of a name. -/
def nmOk (j : Nat) (c : UInt8) : Bool := (decide (97 ≤ c.toNat) && decide (c.toNat ≤ 122)) || (!decide (j = 0) && (decide (48 ≤ c.toNat) && decide (c.toNat ≤ 57)))
/-- The first k bytes may stand in a name. -/
def nmTo (s : ByteArray) (k : Nat) : Bool := (List.range k).all fun j => nmOk j (s.data.toList.getD j 0)
/-- What IsName answers. -/
def nm (s : ByteArray) : Bool := nmTo s s.size && (decide (1 ≤ s.size) && decide (s.size ≤ 8))
theorem getD_at (s : ByteArray) (k : Nat) (h : k < s.size) : s.data.toList.getD k 0 = s[k] := by
  have h' : k < s.data.toList.length := by simpa using h
  rw [List.getD_eq_getElem?_getD, List.getElem?_eq_getElem h']
  rfl
theorem nmTo_snoc (s : ByteArray) (k : Nat) (h : k < s.size) : nmTo s (k + 1) = (nmTo s k && nmOk k s[k]) := by
  rw [← getD_at s k h]; simp [nmTo, List.range_succ, List.all_append]
theorem nm_false (s : ByteArray) (k : Nat) (h : k < s.size) (hd : nmOk k s[k] = false) : nm s = false := by
  have : nmTo s s.size = false := by
    unfold nmTo
    rw [List.all_eq_false]
    exact ⟨k, List.mem_range.2 h, by rw [getD_at s k h]; simp [hd]⟩
  simp [nm, this]
theorem nm_true (s : ByteArray) (k : Nat) (hk : k ≤ s.size) (h : ¬ k < s.size) (hd : nmTo s k = true) : nm s = (decide (1 ≤ s.size) && decide (s.size ≤ 8)) := by
  obtain rfl : k = s.size := by omega
  simp [nm, hd]
theorem nm_len (s : ByteArray) (h : s.size = 0 ∨ 8 < s.size) : nm s = false := by
  unfold nm
  rcases h with h | h
  · have : decide (1 ≤ s.size) = false := decide_eq_false (by omega)
    simp [this]
  · have : decide (s.size ≤ 8) = false := decide_eq_false (by omega)
    simp [this]
theorem nmOk_letter (k : Nat) (c : UInt8) (h1 : 97 ≤ c.toNat) (h2 : c.toNat ≤ 122) : nmOk k c = true := by
  simp [nmOk, h1, h2]
theorem nmOk_digit (k : Nat) (c : UInt8) (h : 0 < k) (h1 : 48 ≤ c.toNat) (h2 : c.toNat ≤ 57) : nmOk k c = true := by
  have : decide (k = 0) = false := by simp; omega
  simp [nmOk, h1, h2, this]
theorem nmOk_no (k : Nat) (c : UInt8) (h1 : c.toNat < 97 ∨ 122 < c.toNat) (h2 : k = 0 ∨ c.toNat < 48 ∨ 57 < c.toNat) : nmOk k c = false := by
  unfold nmOk
  have a : (decide (97 ≤ c.toNat) && decide (c.toNat ≤ 122)) = false := by
    rw [Bool.and_eq_false_iff]; simp only [decide_eq_false_iff_not]; omega
  have b : (!decide (k = 0) && (decide (48 ≤ c.toNat) && decide (c.toNat ≤ 57))) = false := by
    rcases h2 with h2 | h2
    · simp [h2]
    · have : (decide (48 ≤ c.toNat) && decide (c.toNat ≤ 57)) = false := by
        rw [Bool.and_eq_false_iff]; simp only [decide_eq_false_iff_not]; omega
      simp [this]
  rw [a, b]; rfl
end Wm
end Go.Proofs.YtbikkbamcleinaaDoor
