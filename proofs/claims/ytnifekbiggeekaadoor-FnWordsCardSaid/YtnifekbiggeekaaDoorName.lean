/- Contracts of spec.IsName and impl.IsName: each returns whether the string is a name. Condition: the string is at most maxLen bytes long. -/
import Derived.Test.YtnifekbiggeekaaDoorDigits
namespace Go.Proofs.YtnifekbiggeekaaDoor
open Go.RowKit Wm
set_option linter.unusedVariables false

set_option maxHeartbeats 400000 in
theorem isLetter_yes (r : Int) (w : World) (h : 97 ≤ r) (h2 : r ≤ 122) :
    Calls Tryd.prog 24 #[.int .i32 r] w fun e w' => e = .returned (.bool true) ∧ w = w' := by
  go_enter Tryd.func24, Tryd.ntmps24
  go_wp2
  go_ret
  exact ⟨rfl, rfl⟩

set_option maxHeartbeats 400000 in
theorem isLetter_no (r : Int) (w : World) (h : r < 97 ∨ 122 < r) :
    Calls Tryd.prog 24 #[.int .i32 r] w fun e w' => e = .returned (.bool false) ∧ w = w' := by
  rcases h with h | h
  · go_enter Tryd.func24, Tryd.ntmps24
    go_wp2
    go_ret
    exact ⟨rfl, rfl⟩
  · have h0 : 97 ≤ r := by omega
    have h1 : decide (r ≤ 122) = false := by simp; omega
    go_enter Tryd.func24, Tryd.ntmps24
    go_wp2
    go_ret
    exact ⟨rfl, rfl⟩

set_option maxHeartbeats 1000000 in
theorem isName_impl (s : ByteArray) (w : World) (hs : s.size ≤ maxLen) :
    Calls Tryd.prog 12 #[.string s] w fun e w' => e = .returned (.bool (nm s)) ∧ Below w.heap.size w w' := by
  unfold maxLen at hs
  have hie := isEmpty_size s
  by_cases h0 : s.size = 0
  · have HN := Lib.hid (nm_len s (Or.inl h0))
    have he : s.toList.isEmpty = true := by simpa [h0] using hie
    clear hie h0
    go_enter Tryd.func12, Tryd.ntmps12
    go_wp2
    go_ret
    exact ⟨ret_bool HN.out.symm, Below.refl _ _⟩
  · have he : s.toList.isEmpty = false := by
      have hp : decide (0 < s.size) = true := by simp; omega
      rw [hp] at hie; simpa using hie
    clear hie
    by_cases h8 : 8 < s.size
    · have HN := Lib.hid (nm_len s (Or.inr h8))
      go_enter Tryd.func12, Tryd.ntmps12
      go_wp2
      go_ret
      exact ⟨ret_bool HN.out.symm, Below.refl _ _⟩
    · go_enter Tryd.func12, Tryd.ntmps12
      go_wp2
      go_loopw [] (fun w' => ∃ pos : Nat, pos ≤ s.size ∧ w' = w.iter s pos ∧ nmTo s pos = true) (fun w' => s.size - w'.iterPos w.heap.size)
      case atStart => exact ⟨0, Nat.zero_le _, rfl, rfl⟩
      case round =>
        obtain ⟨pos, hk, rfl, hd⟩ := hrel
        have HD : Hid (nmTo s pos = true) := hd
        clear hd
        by_cases hlt : pos < s.size
        · have HS : Hid (nmTo s (pos + 1) = (nmTo s pos && nmOk pos s[pos])) := nmTo_snoc s pos hlt
          by_cases ha : s[pos].toNat < 128
          · have hnx : ∀ ty, (Instr.next (.pointer (some ⟨w.heap.size, 0, none⟩)) true ty).run Tryd.prog (w.iter s pos) = _ := fun ty => run_next_ascii w s pos ty hlt ha
            by_cases hl : 97 ≤ s[pos].toNat ∧ s[pos].toNat ≤ 122
            · have HY := Lib.hid (nmOk_letter pos s[pos] hl.1 hl.2)
              go_wp2_with (go_at_call 24; refine (isLetter_yes _ _ (by omega) (by omega)).mono ?_; rintro e w' ⟨rfl, rfl⟩)
              go_roundw
              case rel => exact ⟨pos + 1, by omega, rfl, by rw [HS.out, HD.out, HY.out]; rfl⟩
              case measure => simp; omega
            · by_cases hp0 : pos = 0
              · subst hp0
                have HN := Lib.hid (nmOk_no 0 s[0] (by omega) (Or.inl rfl))
                go_wp2_with (go_at_call 24; refine (isLetter_no _ _ (by omega)).mono ?_; rintro e w' ⟨rfl, rfl⟩)
                go_ret
                exact ⟨ret_bool (nm_false s 0 hlt HN.out).symm, (Below.refl _ _).alloc (Nat.le_refl _) _⟩
              · have hkz : ((pos : Int) == 0) = false := by simp; omega
                by_cases hdg : 48 ≤ s[pos].toNat ∧ s[pos].toNat ≤ 57
                · have HY := Lib.hid (nmOk_digit pos s[pos] (by omega) hdg.1 hdg.2)
                  go_wp2_with (first | (go_at_call 24; refine (isLetter_no _ _ (by omega)).mono ?_; rintro e w' ⟨rfl, rfl⟩) | (go_at_call 25; refine (isDigit_yes _ _ (by omega) (by omega)).mono ?_; rintro e w' ⟨rfl, rfl⟩))
                  go_roundw
                  case rel => exact ⟨pos + 1, by omega, rfl, by rw [HS.out, HD.out, HY.out]; rfl⟩
                  case measure => simp; omega
                · have HN := Lib.hid (nmOk_no pos s[pos] (by omega) (by omega))
                  go_wp2_with (first | (go_at_call 24; refine (isLetter_no _ _ (by omega)).mono ?_; rintro e w' ⟨rfl, rfl⟩) | (go_at_call 25; refine (isDigit_no _ _ (by omega)).mono ?_; rintro e w' ⟨rfl, rfl⟩))
                  go_ret
                  exact ⟨ret_bool (nm_false s pos hlt HN.out).symm, (Below.refl _ _).alloc (Nat.le_refl _) _⟩
          · have hnx : ∀ ty, (Instr.next (.pointer (some ⟨w.heap.size, 0, none⟩)) true ty).run Tryd.prog (w.iter s pos) = _ := fun ty => run_next_any w s pos ty hlt
            have hhi := (decode_high s pos hlt (by omega)).1
            have HN := Lib.hid (nmOk_no pos s[pos] (by omega) (by omega))
            by_cases hp0 : pos = 0
            · subst hp0
              go_wp2_with (first | (go_at_call 24; refine (isLetter_no _ _ (by omega)).mono ?_; rintro e w' ⟨rfl, rfl⟩) | (go_at_call 25; refine (isDigit_no _ _ (by omega)).mono ?_; rintro e w' ⟨rfl, rfl⟩))
              go_ret
              exact ⟨ret_bool (nm_false s 0 hlt HN.out).symm, (Below.refl _ _).alloc (Nat.le_refl _) _⟩
            · have hkz : ((pos : Int) == 0) = false := by simp; omega
              go_wp2_with (first | (go_at_call 24; refine (isLetter_no _ _ (by omega)).mono ?_; rintro e w' ⟨rfl, rfl⟩) | (go_at_call 25; refine (isDigit_no _ _ (by omega)).mono ?_; rintro e w' ⟨rfl, rfl⟩))
              go_ret
              exact ⟨ret_bool (nm_false s pos hlt HN.out).symm, (Below.refl _ _).alloc (Nat.le_refl _) _⟩
        · have hnx : ∀ ty, (Instr.next (.pointer (some ⟨w.heap.size, 0, none⟩)) true ty).run Tryd.prog (w.iter s pos) = _ := fun ty => run_next_end w s pos ty hlt
          have HE : Hid (nm s = true) := by
            unfold Hid; rw [nm_true s pos hk hlt HD.out]; simp; omega
          go_wp2
          go_ret
          exact ⟨ret_bool HE.out.symm, (Below.refl _ _).alloc (Nat.le_refl _) _⟩
end Go.Proofs.YtnifekbiggeekaaDoor
