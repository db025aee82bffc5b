/- Plain facts on cutting a string at bytes (no program in sight). Conditions: none. -/
import Derived.WalkKit
namespace Go.Proofs.YtdilgjakodimbaaGreatDoor
namespace Sp
/-- The byte c is one of those in the string b. -/
def cuts (b : ByteArray) (c : UInt8) : Bool := b.data.toList.contains c
/-- What has been cut off, and where the next part begins, behind the first k bytes of s. -/
def scan (s b : ByteArray) : Nat → List ByteArray × Nat
  | 0 => ([], 0)
  | k + 1 => if cuts b (s.data.toList.getD k 0) then ((scan s b k).1 ++ [s.extract (scan s b k).2 k], k + 1) else scan s b k
/-- What SplitAny answers. -/
def parts (s b : ByteArray) : List ByteArray := (scan s b s.size).1 ++ [s.extract (scan s b s.size).2 s.size]
theorem scan_le (s b : ByteArray) (k : Nat) : (scan s b k).2 ≤ k ∧ (scan s b k).1.length ≤ k := by
  induction k with
  | zero => simp [scan]
  | succ k ih =>
    unfold scan
    split
    · simp; omega
    · omega
theorem scan_yes (s b : ByteArray) (k : Nat) (h : cuts b (s.data.toList.getD k 0) = true) : scan s b (k + 1) = ((scan s b k).1 ++ [s.extract (scan s b k).2 k], k + 1) := by
  rw [scan, if_pos h]
theorem scan_no (s b : ByteArray) (k : Nat) (h : cuts b (s.data.toList.getD k 0) = false) : scan s b (k + 1) = scan s b k := by
  rw [scan, if_neg (by rw [h]; decide)]
theorem cuts_take (b : ByteArray) (c : UInt8) (j : Nat) (h : j < b.size) : (b.data.toList.take (j + 1)).contains c = ((b.data.toList.take j).contains c || (c == b[j])) := by
  have e : b.data.toList.take (j + 1) = b.data.toList.take j ++ [b[j]] := by
    rw [List.take_succ_eq_append_getElem (by simpa using h)]; rfl
  rw [e, List.contains_append]
  simp only [List.contains_cons, List.contains_nil, Bool.or_false]
theorem parts_len (s b : ByteArray) : (parts s b).length ≤ s.size + 1 := by
  have := (scan_le s b s.size).2
  simp [parts]; omega
/-- What SplitLines answers. -/
def lines (s : ByteArray) : List ByteArray := if (s.extract (scan s ⟨#[10]⟩ s.size).2 s.size).toList.isEmpty then (scan s ⟨#[10]⟩ s.size).1 else parts s ⟨#[10]⟩
theorem lines_len (s : ByteArray) : (lines s).length ≤ s.size + 1 := by
  unfold lines
  split
  · have := (scan_le s ⟨#[10]⟩ s.size).2
    omega
  · exact parts_len s _
end Sp
end Go.Proofs.YtdilgjakodimbaaGreatDoor
