/- Contracts of ParseNat, of the model and of the program. Conditions: none. -/
import Derived.Test.YtbikkbamcleinaaDoorProg
import Derived.Test.YtbikkbamcleinaaDoorParseMath
import Derived.Test.YtbikkbamcleinaaDoorB2
import Derived.Test.YtbikkbamcleinaaDoorDigits
namespace Go.Proofs.YtbikkbamcleinaaDoor
open Go.RowKit Nt Wm
set_option linter.unusedVariables false

/-- What a function leaves that returns a row in new memory and whether there is one. -/
def OwnB (e : TypeId) (xs : List Value) (b : Bool) (w : World) (en : Ending) (w' : World) : Prop :=
  ∃ v, en = .returned (.tuple #[v, .bool b]) ∧ OwnV w' w.heap.size e v xs ∧ Below w.heap.size w w'
theorem ownB_no {e : TypeId} {s : ByteArray} {w w' : World} (h : pOk s = false) (hb : Below w.heap.size w w') : OwnB e (nats (parseN s)) (pOk s) w (.returned (.tuple #[.slice none 0 0, .bool false])) w' := by
  rw [h, parseN_no h]
  exact ⟨_, rfl, OwnV.nil _ _ _, hb⟩
theorem bytes_len (s : ByteArray) : s.data.toList.length = s.size := by simp
theorem bytes_head {s : ByteArray} (h : 0 < s.size) : s.data.toList.head? = some (s[0]'h) := by
  have hl : 0 < s.data.toList.length := by rw [bytes_len]; exact h
  rw [List.head?_eq_getElem?, List.getElem?_eq_getElem hl]
  rfl
theorem bytes_at {s : ByteArray} {k : Nat} (h : k < s.size) : s.data.toList[k]? = some (s[k]'h) := by
  have hl : k < s.data.toList.length := by rw [bytes_len]; exact h
  rw [List.getElem?_eq_getElem hl]
  rfl
theorem limbs_take {l : List UInt8} {e : Nat} (h0 : 0 < e) (he : e ≤ l.length) : limbs (l.take e) = Nu.val 0 ((l.take e).drop (e - 9)) :: limbs (l.take (e - 9)) := by
  have hl : (l.take e).length = e := by simp; omega
  have hne : l.take e ≠ [] := by intro h; rw [h] at hl; simp at hl; omega
  rw [limbs_step hne, hl, List.take_take, Nat.min_eq_left (by omega)]

/-- Atoi at a group of digits. -/
theorem extract_list (s : ByteArray) (a b : Nat) : (s.extract a b).data.toList = (s.data.toList.take b).drop a := by
  rw [ByteArray.data_extract, Array.toList_extract, List.extract_eq_take_drop, List.drop_take]
end Go.Proofs.YtbikkbamcleinaaDoor
