/- Contracts of spec.IsDigits, impl.isDigit and impl.IsDigits: each returns whether the string is a nonempty row of ASCII digits. Condition: the string is at most maxLen bytes long. -/
import Derived.Test.YtdilgjakodimbaaGreatDoorProg
import Derived.Test.YtdilgjakodimbaaGreatDoorWordMath
import Derived.Test.YtdilgjakodimbaaGreatDoorMem
import Derived.WalkKit
import Derived.WalkSpells
import Derived.WalkLawsBesides
import Derived.LoopTactic
import Derived.Outline
import Derived.Lib.Hide
namespace Go.Proofs.YtdilgjakodimbaaGreatDoor
open Go.RowKit Wm
set_option linter.unusedVariables false


set_option maxHeartbeats 400000 in
theorem isDigits_spec (s : ByteArray) (w : World) (hs : s.size ≤ maxLen) :
    Calls Tryz.prog 25 #[.string s] w fun e w' => e = .returned (.bool (digs s)) ∧ w = w' := by
  unfold maxLen at hs
  go_enter Tryz.func25, Tryz.ntmps25
  go_wp2
  go_loop [3] (fun i => ∃ k : Nat, k ≤ s.size ∧ i = .int .i64 k ∧ digAll (s.data.toList.take k) = true) (fun i => s.size - (intOf i).toNat)
  case atStart => exact ⟨0, Nat.zero_le _, rfl, rfl⟩
  case round =>
    obtain ⟨k, hk, rfl, hd⟩ := hrel
    have HD : Hid (digAll (s.data.toList.take k) = true) := hd
    clear hd
    by_cases hlt : k < s.size
    · have HS : Hid (digAll (s.data.toList.take (k + 1)) = (digAll (s.data.toList.take k) && dg s[k])) := digAll_snoc s k hlt
      go_wp2
      · go_ret
        exact ⟨ret_bool (digs_false s k hlt (dg_hi _ (by omega))).symm, rfl⟩
      · go_round
        case rel => exact ⟨k + 1, by omega, by go_num, by rw [HS.out, HD.out, dg_of _ (by omega) (by omega)]; rfl⟩
        case measure => simp [intOf]; omega
      · go_ret
        exact ⟨ret_bool (digs_false s k hlt (dg_lo _ (by omega))).symm, rfl⟩
    · go_wp2
      go_ret
      exact ⟨ret_bool (by rw [digs_true s k hlt HD.out]), rfl⟩

set_option maxHeartbeats 400000 in
theorem isDigit_yes (r : Int) (w : World) (h : 48 ≤ r) (h2 : r ≤ 57) :
    Calls Tryz.prog 47 #[.int .i32 r] w fun e w' => e = .returned (.bool true) ∧ w = w' := by
  go_enter Tryz.func47, Tryz.ntmps47
  go_wp2
  go_ret
  exact ⟨rfl, rfl⟩

set_option maxHeartbeats 400000 in
theorem isDigit_no (r : Int) (w : World) (h : r < 48 ∨ 57 < r) :
    Calls Tryz.prog 47 #[.int .i32 r] w fun e w' => e = .returned (.bool false) ∧ w = w' := by
  rcases h with h | h
  · go_enter Tryz.func47, Tryz.ntmps47
    go_wp2
    go_ret
    exact ⟨rfl, rfl⟩
  · have h0 : 48 ≤ r := by omega
    have h1 : decide (r ≤ 57) = false := by simp; omega
    go_enter Tryz.func47, Tryz.ntmps47
    go_wp2
    go_ret
    exact ⟨rfl, rfl⟩

set_option maxHeartbeats 400000 in
theorem isDigits_impl (s : ByteArray) (w : World) (hs : s.size ≤ maxLen) :
    Calls Tryz.prog 34 #[.string s] w fun e w' => e = .returned (.bool (digs s)) ∧ Below w.heap.size w w' := by
  unfold maxLen at hs
  go_enter Tryz.func34, Tryz.ntmps34
  go_wp2
  go_loopw [] (fun w' => ∃ pos : Nat, pos ≤ s.size ∧ w' = w.iter s pos ∧ digAll (s.data.toList.take pos) = true) (fun w' => s.size - w'.iterPos w.heap.size)
  case atStart => exact ⟨0, Nat.zero_le _, rfl, rfl⟩
  case round =>
    obtain ⟨pos, hk, rfl, hd⟩ := hrel
    have HD : Hid (digAll (s.data.toList.take pos) = true) := hd
    clear hd
    by_cases hlt : pos < s.size
    · have HS : Hid (digAll (s.data.toList.take (pos + 1)) = (digAll (s.data.toList.take pos) && dg s[pos])) := digAll_snoc s pos hlt
      by_cases ha : s[pos].toNat < 128
      · have hnx : ∀ ty, (Instr.next (.pointer (some ⟨w.heap.size, 0, none⟩)) true ty).run Tryz.prog (w.iter s pos) = _ := fun ty => run_next_ascii w s pos ty hlt ha
        by_cases hdg : 48 ≤ s[pos].toNat ∧ s[pos].toNat ≤ 57
        · have HY : Hid (dg s[pos] = true) := dg_of _ (by omega) (by omega)
          go_wp2_with (go_at_call 47; refine (isDigit_yes _ _ (by omega) (by omega)).mono ?_; rintro e w' ⟨rfl, rfl⟩)
          go_roundw
          case rel => exact ⟨pos + 1, by omega, rfl, by rw [HS.out, HD.out, HY.out]; rfl⟩
          case measure => simp; omega
        · have HN : Hid (dg s[pos] = false) := by
            by_cases h48 : s[pos].toNat < 48
            · exact dg_lo _ (by omega)
            · exact dg_hi _ (by omega)
          go_wp2_with (go_at_call 47; refine (isDigit_no _ _ (by omega)).mono ?_; rintro e w' ⟨rfl, rfl⟩)
          go_ret
          exact ⟨ret_bool (digs_false s pos hlt HN.out).symm, (Below.refl _ _).alloc (Nat.le_refl _) _⟩
      · have hnx : ∀ ty, (Instr.next (.pointer (some ⟨w.heap.size, 0, none⟩)) true ty).run Tryz.prog (w.iter s pos) = _ := fun ty => run_next_any w s pos ty hlt
        have hhi := (decode_high s pos hlt (by omega)).1
        have HN : Hid (dg s[pos] = false) := dg_hi _ (by omega)
        go_wp2_with (go_at_call 47; refine (isDigit_no _ _ (by omega)).mono ?_; rintro e w' ⟨rfl, rfl⟩)
        go_ret
        exact ⟨ret_bool (digs_false s pos hlt HN.out).symm, (Below.refl _ _).alloc (Nat.le_refl _) _⟩
    · have hnx : ∀ ty, (Instr.next (.pointer (some ⟨w.heap.size, 0, none⟩)) true ty).run Tryz.prog (w.iter s pos) = _ := fun ty => run_next_end w s pos ty hlt
      go_wp2
      go_ret
      exact ⟨ret_bool (by rw [digs_true s pos hlt HD.out]; exact isEmpty_size s), (Below.refl _ _).alloc (Nat.le_refl _) _⟩
end Go.Proofs.YtdilgjakodimbaaGreatDoor
