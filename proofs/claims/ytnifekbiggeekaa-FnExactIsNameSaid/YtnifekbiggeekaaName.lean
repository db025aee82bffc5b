/- Contracts of spec.IsName and impl.IsName: each returns whether the string is a name. Condition: the string is at most maxLen bytes long. -/
import Derived.Test.YtnifekbiggeekaaDigits
namespace Go.Proofs.Ytnifekbiggeekaa
open Go.RowKit Wm
set_option linter.unusedVariables false

set_option maxHeartbeats 400000 in
theorem l01In_any (n lo hi : Int) (w : World) :
    Calls Try.prog 27 #[.int .i64 n, .int .i64 lo, .int .i64 hi] w fun e w' => e = .returned (.bool (decide (lo ≤ n) && decide (n ≤ hi))) ∧ w = w' := by
  by_cases h : lo ≤ n
  · go_enter Try.func27, Try.ntmps27
    go_wp2
    go_ret
    exact ⟨ret_bool (by simp [h]), rfl⟩
  · have h' : decide (lo ≤ n) = false := by simp; omega
    go_enter Try.func27, Try.ntmps27
    go_wp2
    go_ret
    exact ⟨rfl, rfl⟩

set_option maxHeartbeats 400000 in
theorem isLetter_yes (r : Int) (w : World) (h : 97 ≤ r) (h2 : r ≤ 122) :
    Calls Try.prog 28 #[.int .i32 r] w fun e w' => e = .returned (.bool true) ∧ w = w' := by
  go_enter Try.func28, Try.ntmps28
  go_wp2
  go_ret
  exact ⟨rfl, rfl⟩

set_option maxHeartbeats 400000 in
theorem isLetter_no (r : Int) (w : World) (h : r < 97 ∨ 122 < r) :
    Calls Try.prog 28 #[.int .i32 r] w fun e w' => e = .returned (.bool false) ∧ w = w' := by
  rcases h with h | h
  · go_enter Try.func28, Try.ntmps28
    go_wp2
    go_ret
    exact ⟨rfl, rfl⟩
  · have h0 : 97 ≤ r := by omega
    have h1 : decide (r ≤ 122) = false := by simp; omega
    go_enter Try.func28, Try.ntmps28
    go_wp2
    go_ret
    exact ⟨rfl, rfl⟩

set_option maxHeartbeats 1000000 in
theorem isName_spec (s : ByteArray) (w : World) (hs : s.size ≤ maxLen) :
    Calls Try.prog 11 #[.string s] w fun e w' => e = .returned (.bool (nm s)) ∧ w = w' := by
  unfold maxLen at hs
  go_enter Try.func11, Try.ntmps11
  go_wp2
  go_loop [3] (fun i => ∃ k : Nat, k ≤ s.size ∧ i = .int .i64 k ∧ nmTo s k = true) (fun i => s.size - (intOf i).toNat)
  case atStart => exact ⟨0, Nat.zero_le _, rfl, rfl⟩
  case round =>
    obtain ⟨k, hk, rfl, hd⟩ := hrel
    have HD : Hid (nmTo s k = true) := hd
    clear hd
    by_cases hlt : k < s.size
    · have HS : Hid (nmTo s (k + 1) = (nmTo s k && nmOk k s[k])) := nmTo_snoc s k hlt
      by_cases hl : 97 ≤ (s[k].toNat : Int) ∧ (s[k].toNat : Int) ≤ 122
      · obtain ⟨hl1, hl2⟩ := hl
        go_wp2
        go_round
        case rel => exact ⟨k + 1, by omega, by go_num, by rw [HS.out, HD.out, nmOk_letter _ _ (by omega) (by omega)]; rfl⟩
        case measure => simp [intOf]; omega
      · have HL : Hid (s[k].toNat < 97 ∨ 122 < s[k].toNat) := by unfold Hid; omega
        clear hl
        by_cases hk0 : k = 0
        · subst hk0
          have HN := Lib.hid (nmOk_no 0 s[0] HL.out (Or.inl rfl))
          by_cases h97 : (97 : Int) ≤ s[0].toNat
          · have h122 : ¬ ((s[0].toNat : Int) ≤ 122) := by have := HL.out; omega
            go_wp2
            go_ret
            exact ⟨ret_bool (nm_false s 0 hlt HN.out).symm, rfl⟩
          · go_wp2
            go_ret
            exact ⟨ret_bool (nm_false s 0 hlt HN.out).symm, rfl⟩
        · have hkz : ((k : Int) == 0) = false := by simp; omega
          by_cases h97 : (97 : Int) ≤ s[k].toNat
          · have h122 : ¬ ((s[k].toNat : Int) ≤ 122) := by have := HL.out; omega
            have HN := Lib.hid (nmOk_no k s[k] HL.out (Or.inr (Or.inr (by omega))))
            go_wp2
            go_ret
            exact ⟨ret_bool (nm_false s k hlt HN.out).symm, rfl⟩
          · by_cases h48 : (s[k].toNat : Int) < 48
            · have HN := Lib.hid (nmOk_no k s[k] HL.out (Or.inr (Or.inl (by omega))))
              go_wp2
              go_ret
              exact ⟨ret_bool (nm_false s k hlt HN.out).symm, rfl⟩
            · by_cases h57 : 57 < (s[k].toNat : Int)
              · have HN := Lib.hid (nmOk_no k s[k] HL.out (Or.inr (Or.inr (by omega))))
                go_wp2
                go_ret
                exact ⟨ret_bool (nm_false s k hlt HN.out).symm, rfl⟩
              · have HN := Lib.hid (nmOk_digit k s[k] (by omega) (by omega) (by omega))
                go_wp2
                go_round
                case rel => exact ⟨k + 1, by omega, by go_num, by rw [HS.out, HD.out, HN.out]; rfl⟩
                case measure => simp [intOf]; omega
    · go_wp2_with (go_at_call 27; refine (l01In_any _ _ _ _).mono ?_; rintro e w' ⟨rfl, rfl⟩)
      go_ret
      exact ⟨ret_bool (by rw [nm_true s k hk hlt HD.out]; congr 1 <;> (apply decide_eq_decide.2; omega)), rfl⟩

set_option maxHeartbeats 1000000 in
theorem isName_impl (s : ByteArray) (w : World) (hs : s.size ≤ maxLen) :
    Calls Try.prog 12 #[.string s] w fun e w' => e = .returned (.bool (nm s)) ∧ Below w.heap.size w w' := by
  unfold maxLen at hs
  have hie := isEmpty_size s
  by_cases h0 : s.size = 0
  · have HN := Lib.hid (nm_len s (Or.inl h0))
    have he : s.toList.isEmpty = true := by simpa [h0] using hie
    clear hie h0
    go_enter Try.func12, Try.ntmps12
    go_wp2
    go_ret
    exact ⟨ret_bool HN.out.symm, Below.refl _ _⟩
  · have he : s.toList.isEmpty = false := by
      have hp : decide (0 < s.size) = true := by simp; omega
      rw [hp] at hie; simpa using hie
    clear hie
    by_cases h8 : 8 < s.size
    · have HN := Lib.hid (nm_len s (Or.inr h8))
      go_enter Try.func12, Try.ntmps12
      go_wp2
      go_ret
      exact ⟨ret_bool HN.out.symm, Below.refl _ _⟩
    · go_enter Try.func12, Try.ntmps12
      go_wp2
      go_loopw [] (fun w' => ∃ pos : Nat, pos ≤ s.size ∧ w' = w.iter s pos ∧ nmTo s pos = true) (fun w' => s.size - w'.iterPos w.heap.size)
      case atStart => exact ⟨0, Nat.zero_le _, rfl, rfl⟩
      case round =>
        obtain ⟨pos, hk, rfl, hd⟩ := hrel
        have HD : Hid (nmTo s pos = true) := hd
        clear hd
        by_cases hlt : pos < s.size
        · have HS : Hid (nmTo s (pos + 1) = (nmTo s pos && nmOk pos s[pos])) := nmTo_snoc s pos hlt
          by_cases ha : s[pos].toNat < 128
          · have hnx : ∀ ty, (Instr.next (.pointer (some ⟨w.heap.size, 0, none⟩)) true ty).run Try.prog (w.iter s pos) = _ := fun ty => run_next_ascii w s pos ty hlt ha
            by_cases hl : 97 ≤ s[pos].toNat ∧ s[pos].toNat ≤ 122
            · have HY := Lib.hid (nmOk_letter pos s[pos] hl.1 hl.2)
              go_wp2_with (go_at_call 28; refine (isLetter_yes _ _ (by omega) (by omega)).mono ?_; rintro e w' ⟨rfl, rfl⟩)
              go_roundw
              case rel => exact ⟨pos + 1, by omega, rfl, by rw [HS.out, HD.out, HY.out]; rfl⟩
              case measure => simp; omega
            · by_cases hp0 : pos = 0
              · subst hp0
                have HN := Lib.hid (nmOk_no 0 s[0] (by omega) (Or.inl rfl))
                go_wp2_with (go_at_call 28; refine (isLetter_no _ _ (by omega)).mono ?_; rintro e w' ⟨rfl, rfl⟩)
                go_ret
                exact ⟨ret_bool (nm_false s 0 hlt HN.out).symm, (Below.refl _ _).alloc (Nat.le_refl _) _⟩
              · have hkz : ((pos : Int) == 0) = false := by simp; omega
                by_cases hdg : 48 ≤ s[pos].toNat ∧ s[pos].toNat ≤ 57
                · have HY := Lib.hid (nmOk_digit pos s[pos] (by omega) hdg.1 hdg.2)
                  go_wp2_with (first | (go_at_call 28; refine (isLetter_no _ _ (by omega)).mono ?_; rintro e w' ⟨rfl, rfl⟩) | (go_at_call 26; refine (isDigit_yes _ _ (by omega) (by omega)).mono ?_; rintro e w' ⟨rfl, rfl⟩))
                  go_roundw
                  case rel => exact ⟨pos + 1, by omega, rfl, by rw [HS.out, HD.out, HY.out]; rfl⟩
                  case measure => simp; omega
                · have HN := Lib.hid (nmOk_no pos s[pos] (by omega) (by omega))
                  go_wp2_with (first | (go_at_call 28; refine (isLetter_no _ _ (by omega)).mono ?_; rintro e w' ⟨rfl, rfl⟩) | (go_at_call 26; refine (isDigit_no _ _ (by omega)).mono ?_; rintro e w' ⟨rfl, rfl⟩))
                  go_ret
                  exact ⟨ret_bool (nm_false s pos hlt HN.out).symm, (Below.refl _ _).alloc (Nat.le_refl _) _⟩
          · have hnx : ∀ ty, (Instr.next (.pointer (some ⟨w.heap.size, 0, none⟩)) true ty).run Try.prog (w.iter s pos) = _ := fun ty => run_next_any w s pos ty hlt
            have hhi := (decode_high s pos hlt (by omega)).1
            have HN := Lib.hid (nmOk_no pos s[pos] (by omega) (by omega))
            by_cases hp0 : pos = 0
            · subst hp0
              go_wp2_with (first | (go_at_call 28; refine (isLetter_no _ _ (by omega)).mono ?_; rintro e w' ⟨rfl, rfl⟩) | (go_at_call 26; refine (isDigit_no _ _ (by omega)).mono ?_; rintro e w' ⟨rfl, rfl⟩))
              go_ret
              exact ⟨ret_bool (nm_false s 0 hlt HN.out).symm, (Below.refl _ _).alloc (Nat.le_refl _) _⟩
            · have hkz : ((pos : Int) == 0) = false := by simp; omega
              go_wp2_with (first | (go_at_call 28; refine (isLetter_no _ _ (by omega)).mono ?_; rintro e w' ⟨rfl, rfl⟩) | (go_at_call 26; refine (isDigit_no _ _ (by omega)).mono ?_; rintro e w' ⟨rfl, rfl⟩))
              go_ret
              exact ⟨ret_bool (nm_false s pos hlt HN.out).symm, (Below.refl _ _).alloc (Nat.le_refl _) _⟩
        · have hnx : ∀ ty, (Instr.next (.pointer (some ⟨w.heap.size, 0, none⟩)) true ty).run Try.prog (w.iter s pos) = _ := fun ty => run_next_end w s pos ty hlt
          have HE : Hid (nm s = true) := by
            unfold Hid; rw [nm_true s pos hk hlt HD.out]; simp; omega
          go_wp2
          go_ret
          exact ⟨ret_bool HE.out.symm, (Below.refl _ _).alloc (Nat.le_refl _) _⟩
end Go.Proofs.Ytnifekbiggeekaa
