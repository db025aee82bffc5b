/- The contract of spec.Join. Conditions: at most 2^20 strings of at most 2^20 bytes together, a separator of at most 2^20 bytes. -/
import Derived.Test.YtljlibigphgffaaGreatDoorHelpS2
namespace Go.Proofs.YtljlibigphgffaaGreatDoor
open Go.RowKit Jn
set_option linter.unusedVariables false

theorem join_bound (b : ByteArray) (xs : List ByteArray) (n j : Nat) (hl : xs.length = n) (hb : b.size ≤ 1048576) (ht : n + total xs ≤ 1048576) : (joinL b (xs.take j)).length ≤ 1099512676352 := by
  have h1 := joinL_len b (xs.take j)
  have h2 := total_take_le xs j
  have h3 : (xs.take j).length ≤ 1048576 := by simp; omega
  have h4 : (xs.take j).length * b.size ≤ 1048576 * 1048576 := Nat.mul_le_mul h3 hb
  omega
theorem join_app (a : List UInt8) (b : ByteArray) : (⟨a.toArray⟩ : ByteArray) ++ b = ⟨(a ++ b.data.toList).toArray⟩ := by
  apply bytes_ext
  rw [app_data]
theorem join_size (a : List UInt8) : (⟨a.toArray⟩ : ByteArray).size = a.length := by
  show a.toArray.size = _
  simp

end Go.Proofs.YtljlibigphgffaaGreatDoor
