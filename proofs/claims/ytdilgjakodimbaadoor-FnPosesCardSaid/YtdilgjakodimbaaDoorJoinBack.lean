/- Plain fact: joining the parts of a string with the one byte at which it was cut gives the string back. Conditions: none. -/
import Derived.Test.YtdilgjakodimbaaDoorSplitMath
import Derived.Test.YtdilgjakodimbaaDoorJoinMath
import Derived.Test.YtdilgjakodimbaaDoorMem
import Derived.Lib.Strings
namespace Go.Proofs.YtdilgjakodimbaaDoor
open Sp Jn
theorem ext_data (s : ByteArray) (a b : Nat) : (s.extract a b).data.toList = (s.data.toList.drop a).take (b - a) := Lib.extract_data s a b
theorem ext_succ (s : ByteArray) (a k : Nat) (ha : a ≤ k) (hk : k < s.size) : (s.extract a (k + 1)).data.toList = (s.extract a k).data.toList ++ [s.data.toList.getD k 0] := by
  rw [ext_data, ext_data]
  have hl : k < s.data.toList.length := by simpa using hk
  rw [show k + 1 - a = (k - a) + 1 by omega, List.take_succ_eq_append_getElem (by rw [List.length_drop]; omega)]
  congr 1
  rw [List.getElem_drop, List.getD_eq_getElem?_getD, List.getElem?_eq_getElem hl]
  simp [show a + (k - a) = k by omega]
theorem joinL_last (b : ByteArray) (ps : List ByteArray) (x y : ByteArray) (c : UInt8) (h : y.data.toList = x.data.toList ++ [c]) : joinL b (ps ++ [y]) = joinL b (ps ++ [x]) ++ [c] := by
  by_cases hp : ps = []
  · subst hp; simp [joinL, h]
  · rw [joinL_snoc b ps y hp, joinL_snoc b ps x hp, h]
    simp only [List.append_assoc]
theorem join_scan (s : ByteArray) (c : UInt8) (k : Nat) (hk : k ≤ s.size) : joinL ⟨#[c]⟩ ((scan s ⟨#[c]⟩ k).1 ++ [s.extract (scan s ⟨#[c]⟩ k).2 k]) = s.data.toList.take k := by
  induction k with
  | zero => simp [scan, joinL]
  | succ k ih =>
    have ih := ih (by omega)
    have hle := (scan_le s ⟨#[c]⟩ k).1
    have ht : s.data.toList.take (k + 1) = s.data.toList.take k ++ [s.data.toList.getD k 0] := by
      have hl : k < s.data.toList.length := by simpa using (show k < s.size by omega)
      rw [List.take_succ_eq_append_getElem hl, List.getD_eq_getElem?_getD, List.getElem?_eq_getElem hl]
      rfl
    by_cases hc : cuts ⟨#[c]⟩ (s.data.toList.getD k 0) = true
    · rw [scan_yes s _ k hc]
      have he : s.data.toList.getD k 0 = c := by
        unfold cuts at hc
        rw [show (⟨#[c]⟩ : ByteArray).data.toList = [c] from rfl, List.contains_cons, List.contains_nil, Bool.or_false] at hc
        exact beq_iff_eq.1 hc
      rw [joinL_snoc _ _ _ (by simp), ih, ht, he]
      have h0 : (s.extract (k + 1) (k + 1)).data.toList = [] := by rw [ext_data]; simp
      rw [h0]
      rfl
    · have hc' : cuts ⟨#[c]⟩ (s.data.toList.getD k 0) = false := by simpa using hc
      rw [scan_no s _ k hc', ht, ← ih]
      exact joinL_last _ _ _ _ _ (ext_succ s _ k hle (by omega))
theorem join_parts (s : ByteArray) (c : UInt8) : join ⟨#[c]⟩ (parts s ⟨#[c]⟩) = s := by
  apply bytes_ext
  unfold join parts
  have h := join_scan s c s.size (Nat.le_refl _)
  simp only [h]
  have e : s.data.toList.length = s.size := by simp
  rw [List.take_of_length_le (by omega)]
end Go.Proofs.YtdilgjakodimbaaDoor
