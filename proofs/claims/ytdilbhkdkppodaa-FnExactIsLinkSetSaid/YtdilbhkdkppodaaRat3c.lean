/- Fractions: the order, in the model. Conditions: none. -/
import Derived.Test.YtdilbhkdkppodaaProg
import Derived.Test.YtdilbhkdkppodaaRat3b
namespace Go.Proofs.Ytdilbhkdkppodaa
open Go.RowKit Nt
set_option linter.unusedVariables false

theorem sgnR_nil {s : Bool} {xs ys : List Int} (h : xs.length = 0) : sgnR s xs ys = 0 := by
  unfold sgnR
  rw [zOf, List.eq_nil_of_length_eq_zero h]
  have e : signed s (val (toN [])) = 0 := by cases s <;> rfl
  rw [e]
  split <;> rfl
theorem zOf_pos {xs ys : List Int} {s : Bool} (h : okR s xs ys = true) (hl : 0 < xs.length) : 0 < val (toN xs) := val_pos (okI_nats (okB_ok (okR_parts h).1)).2.1 (by rw [toN_len]; exact hl)
theorem sgnR_true {xs ys : List Int} (h : okR true xs ys = true) (hl : 0 < xs.length) : sgnR true xs ys = -1 := by
  have h1 := zOf_pos h hl
  have h2 : zOf true xs < 0 := by simp [zOf, signed]; omega
  unfold sgnR cmpZ
  rw [if_pos h, if_pos h2]
theorem sgnR_false {xs ys : List Int} (h : okR false xs ys = true) (hl : 0 < xs.length) : sgnR false xs ys = 1 := by
  have h1 := zOf_pos h hl
  have h2 : 0 < zOf false xs := by simp [zOf, signed]; omega
  unfold sgnR cmpZ
  rw [if_pos h, if_neg (by omega), if_neg (by omega)]
theorem sgnR_no {s : Bool} {xs ys : List Int} (h : okR s xs ys = false) : sgnR s xs ys = 0 := by unfold sgnR; rw [h]; rfl
set_option maxRecDepth 100000 in
set_option maxHeartbeats 4000000 in
theorem ratSign_spec (s : Bool) (A : Option Addr) (n c : Nat) (xs : List Int) (B : Option Addr) (m d : Nat) (ys : List Int) (w : World) (hA : Arg w A n c (ints xs)) (hB : Arg w B m d (ints ys)) :
    Calls Try.prog 25 #[.agg #[.bool s, .slice A n c, .slice B m d]] w fun e w' => e = .returned (.int .i64 (sgnR s xs ys)) ∧ Below w.heap.size w w' := by
  obtain ⟨Q, hQ⟩ : ∃ y9, sgnR s xs ys = y9 := ⟨_, rfl⟩
  rw [hQ]
  have HL := Lib.hid hA.ilen
  have hn := hA.max
  unfold maxLen at hn
  have HQ := Lib.hid hQ
  have HA := Lib.hid hA
  have HB := Lib.hid hB
  clear hQ hA hB
  go_enter Try.func25, Try.ntmps25
  have HB_0 := Lib.hid ((Below.refl w.heap.size w).alloc (Nat.le_refl _) (.cells #[.bool s, .slice A n c, .slice B m d] 33))
  have K_a_0 := Lib.hid (HeldL.new_at w (w.heap.size) [.bool s, .slice A n c, .slice B m d] 33 (by first | rfl | simp))
  go_wp2_with fail
  refine (ratOk_spec s A n c xs B m d ys _ (HA.out.below HB_0.out (Nat.le_refl _)) (HB.out.below HB_0.out (Nat.le_refl _))).mono ?_
  rintro e w1 ⟨rfl, hb⟩
  have K_a_1 := Lib.hid (K_a_0.out.after hb)
  have HB_1 := Lib.hid (HB_0.out.trans (hb.mono HB_0.out.size))
  clear hb
  by_cases hok : okR s xs ys = true
  · rw [hok]
    have HOK := Lib.hid hok
    clear hok
    by_cases h0 : n = 0
    · subst h0
      obtain rfl : Q = 0 := by rw [← HQ.out]; exact sgnR_nil HL.out
      have hk_a_0_1 := K_a_1.out.cell 0 _ rfl
      have hk_a_1_1 := K_a_1.out.cell 1 _ rfl
      have hk_a_2_1 := K_a_1.out.cell 2 _ rfl
      go_wp2
      go_ret
      exact ⟨rfl, HB_1.out⟩
    · have h1 : ¬ (n : Int) = 0 := by omega
      cases s
      · obtain rfl : Q = 1 := by rw [← HQ.out]; exact sgnR_false HOK.out (by rw [HL.out]; omega)
        have hk_a_0_1 := K_a_1.out.cell 0 _ rfl
        have hk_a_1_1 := K_a_1.out.cell 1 _ rfl
        have hk_a_2_1 := K_a_1.out.cell 2 _ rfl
        go_wp2
        go_ret
        exact ⟨rfl, HB_1.out⟩
      · obtain rfl : Q = -1 := by rw [← HQ.out]; exact sgnR_true HOK.out (by rw [HL.out]; omega)
        have hk_a_0_1 := K_a_1.out.cell 0 _ rfl
        have hk_a_1_1 := K_a_1.out.cell 1 _ rfl
        have hk_a_2_1 := K_a_1.out.cell 2 _ rfl
        go_wp2
        go_ret
        exact ⟨rfl, HB_1.out⟩
  · rw [Bool.not_eq_true] at hok
    rw [hok]
    obtain rfl : Q = 0 := by rw [← HQ.out]; exact sgnR_no hok
    clear hok
    have hk_a_0_1 := K_a_1.out.cell 0 _ rfl
    have hk_a_1_1 := K_a_1.out.cell 1 _ rfl
    have hk_a_2_1 := K_a_1.out.cell 2 _ rfl
    go_wp2
    go_ret
    exact ⟨rfl, HB_1.out⟩
end Go.Proofs.Ytdilbhkdkppodaa
