/- Fractions that are equal in all fields and elements, in the model and in the program. Conditions: none. -/
import Derived.Test.YtdilbhkdkppodaaProg
import Derived.Test.YtdilbhkdkppodaaRatMath
namespace Go.Proofs.Ytdilbhkdkppodaa
open Go.RowKit Nt
set_option linter.unusedVariables false

/-- What RatEqual answers. -/
def eqR (s : Bool) (xs ys : List Int) (t : Bool) (us vs : List Int) : Bool := (s == t) && (decide (xs = us) && decide (ys = vs))
set_option maxRecDepth 100000 in
set_option maxHeartbeats 4000000 in
theorem l04List_any (A B : Option Addr) (n c m d : Nat) (xs ys : List Int) (w : World) (hA : VRow w A n (ints xs)) (hB : VRow w B m (ints ys)) (hn : n ≤ maxLen) (hm : m ≤ maxLen) :
    Calls Try.prog 61 #[.slice A n c, .slice B m d] w fun e w' => e = .returned (.bool (decide (xs = ys))) ∧ Below w.heap.size w w' := by
  unfold maxLen at hn hm
  have HL := Lib.hid (show xs.length = n by simpa [ints] using hA.1)
  have HM := Lib.hid (show ys.length = m by simpa [ints] using hB.1)
  by_cases hnm : n = m
  · subst hnm
    go_enter Try.func61, Try.ntmps61
    go_wp2
    go_loopw [13] (fun i wr => ∃ k q : Nat, k ≤ n ∧ i = .int .i64 k ∧ wr = w.drewN q ∧ xs.take k = ys.take k) (fun i _ => n - (intOf i).toNat)
    case atStart => exact ⟨0, 0, Nat.zero_le _, rfl, rfl, rfl⟩
    case round =>
      obtain ⟨k, q, hk, rfl, rfl, hdr⟩ := hrel
      have HDR := Lib.hid hdr
      clear hdr
      by_cases hlt : k < n
      · obtain ⟨g, o, rfl, hg, hc⟩ := hA.at_ hlt
        obtain ⟨g', o', rfl, hg', hc'⟩ := hB.at_ hlt
        rw [ints_get] at hc hc'
        have hix : k < xs.length := by have := HL.out; omega
        have hiy : k < ys.length := by have := HM.out; omega
        obtain ⟨x, hx⟩ : ∃ x, xs[k] = x := ⟨_, rfl⟩
        obtain ⟨y, hy⟩ : ∃ y, ys[k] = y := ⟨_, rfl⟩
        rw [hx] at hc
        rw [hy] at hc'
        have HX := Lib.hid hx
        have HY := Lib.hid hy
        clear hx hy
        by_cases hxy : x = y
        · subst hxy
          have HST := Lib.hid (show xs.take (k + 1) = ys.take (k + 1) by rw [List.take_add_one, List.take_add_one, HDR.out, List.getElem?_eq_getElem hix, List.getElem?_eq_getElem hiy, HX.out, HY.out])
          clear HX HY hix hiy
          go_wp2
          go_quiet (fail)
          go_wp2
          exact ⟨⟨k + 1, q + nq, by omega, by go_num, rfl, HST.out⟩, by simp [intOf]; omega⟩
        · have HNE := Lib.hid (show decide (xs = ys) = false by rw [decide_eq_false_iff_not]; intro e; apply hxy; rw [← HX.out, ← HY.out]; simp only [e])
          clear HX HY hix hiy
          go_wp2
          go_quiet (fail)
          go_wp2
          go_ret
          exact ⟨by rw [HNE.out]; rfl, below_drewN (below_drewN (Below.refl _ _) _) _⟩
      · have HEQ := Lib.hid (show decide (xs = ys) = true by have h1 := HDR.out; rw [List.take_of_length_le (by have := HL.out; omega), List.take_of_length_le (by have := HM.out; omega)] at h1; rw [h1]; simp)
        go_wp2
        go_ret
        exact ⟨by rw [HEQ.out]; rfl, below_drewN (Below.refl _ _) q⟩
  · have HNE := Lib.hid (show decide (xs = ys) = false by rw [decide_eq_false_iff_not]; intro e; apply hnm; rw [← HL.out, ← HM.out, e])
    have hnm2 : ¬ (n : Int) = (m : Int) := by omega
    go_enter Try.func61, Try.ntmps61
    go_wp2
    go_ret
    exact ⟨by rw [HNE.out]; rfl, Below.refl _ _⟩
set_option maxRecDepth 100000 in
set_option maxHeartbeats 4000000 in
theorem slicesEqual_any (A B : Option Addr) (n c m d : Nat) (xs ys : List Int) (w : World) (hA : VRow w A n (ints xs)) (hB : VRow w B m (ints ys)) (hn : n ≤ maxLen) (hm : m ≤ maxLen) :
    Calls Try.prog 78 #[.slice A n c, .slice B m d] w fun e w' => e = .returned (.bool (decide (xs = ys))) ∧ Below w.heap.size w w' := by
  unfold maxLen at hn hm
  have HL := Lib.hid (show xs.length = n by simpa [ints] using hA.1)
  have HM := Lib.hid (show ys.length = m by simpa [ints] using hB.1)
  by_cases hnm : n = m
  · subst hnm
    go_enter Try.func78, Try.ntmps78
    go_wp2
    go_loopw [13] (fun i wr => ∃ k q : Nat, k ≤ n ∧ i = .int .i64 k ∧ wr = w.drewN q ∧ xs.take k = ys.take k) (fun i _ => n - (intOf i).toNat)
    case atStart => exact ⟨0, 0, Nat.zero_le _, rfl, rfl, rfl⟩
    case round =>
      obtain ⟨k, q, hk, rfl, rfl, hdr⟩ := hrel
      have HDR := Lib.hid hdr
      clear hdr
      by_cases hlt : k < n
      · obtain ⟨g, o, rfl, hg, hc⟩ := hA.at_ hlt
        obtain ⟨g', o', rfl, hg', hc'⟩ := hB.at_ hlt
        rw [ints_get] at hc hc'
        have hix : k < xs.length := by have := HL.out; omega
        have hiy : k < ys.length := by have := HM.out; omega
        obtain ⟨x, hx⟩ : ∃ x, xs[k] = x := ⟨_, rfl⟩
        obtain ⟨y, hy⟩ : ∃ y, ys[k] = y := ⟨_, rfl⟩
        rw [hx] at hc
        rw [hy] at hc'
        have HX := Lib.hid hx
        have HY := Lib.hid hy
        clear hx hy
        by_cases hxy : x = y
        · subst hxy
          have HST := Lib.hid (show xs.take (k + 1) = ys.take (k + 1) by rw [List.take_add_one, List.take_add_one, HDR.out, List.getElem?_eq_getElem hix, List.getElem?_eq_getElem hiy, HX.out, HY.out])
          clear HX HY hix hiy
          go_wp2
          go_quiet (fail)
          go_wp2
          exact ⟨⟨k + 1, q + nq, by omega, by go_num, rfl, HST.out⟩, by simp [intOf]; omega⟩
        · have HNE := Lib.hid (show decide (xs = ys) = false by rw [decide_eq_false_iff_not]; intro e; apply hxy; rw [← HX.out, ← HY.out]; simp only [e])
          clear HX HY hix hiy
          go_wp2
          go_quiet (fail)
          go_wp2
          go_ret
          exact ⟨by rw [HNE.out]; rfl, below_drewN (below_drewN (Below.refl _ _) _) _⟩
      · have HEQ := Lib.hid (show decide (xs = ys) = true by have h1 := HDR.out; rw [List.take_of_length_le (by have := HL.out; omega), List.take_of_length_le (by have := HM.out; omega)] at h1; rw [h1]; simp)
        go_wp2
        go_ret
        exact ⟨by rw [HEQ.out]; rfl, below_drewN (Below.refl _ _) q⟩
  · have HNE := Lib.hid (show decide (xs = ys) = false by rw [decide_eq_false_iff_not]; intro e; apply hnm; rw [← HL.out, ← HM.out, e])
    have hnm2 : ¬ (n : Int) = (m : Int) := by omega
    go_enter Try.func78, Try.ntmps78
    go_wp2
    go_ret
    exact ⟨by rw [HNE.out]; rfl, Below.refl _ _⟩
set_option maxRecDepth 100000 in
set_option maxHeartbeats 4000000 in
theorem ratEqual_spec (s : Bool) (A : Option Addr) (n c : Nat) (xs : List Int) (B : Option Addr) (m d : Nat) (ys : List Int) (t : Bool) (C : Option Addr) (p q : Nat) (us : List Int) (E : Option Addr) (k l : Nat) (vs : List Int) (w : World) (hA : Arg w A n c (ints xs)) (hB : Arg w B m d (ints ys)) (hC : Arg w C p q (ints us)) (hE : Arg w E k l (ints vs)) :
    Calls Try.prog 40 #[.agg #[.bool s, .slice A n c, .slice B m d], .agg #[.bool t, .slice C p q, .slice E k l]] w fun e w' => e = .returned (.bool (eqR s xs ys t us vs)) ∧ Below w.heap.size w w' := by
  have HA := Lib.hid hA
  have HB := Lib.hid hB
  have HC := Lib.hid hC
  have HE := Lib.hid hE
  clear hA hB hC hE
  have HN := Lib.hid (And.intro HA.out.max (And.intro HB.out.max (And.intro HC.out.max HE.out.max)))
  by_cases hst : s = t
  · subst hst
    go_enter Try.func40, Try.ntmps40
    have HB_0 := Lib.hid (((Below.refl w.heap.size w).alloc (Nat.le_refl _) (.cells #[.bool s, .slice A n c, .slice B m d] 33)).alloc (by simp) (.cells #[.bool s, .slice C p q, .slice E k l] 33))
    have K_a_0 := Lib.hid ((HeldL.new_at w (w.heap.size) [.bool s, .slice A n c, .slice B m d] 33 (by first | rfl | simp)).alloc (.cells #[.bool s, .slice C p q, .slice E k l] 33))
    have K_b_0 := Lib.hid (HeldL.new_at (w.alloc (.cells #[.bool s, .slice A n c, .slice B m d] 33)) (w.heap.size + 1) [.bool s, .slice C p q, .slice E k l] 33 (by first | rfl | simp))
    have hne_a_b : w.heap.size ≠ w.heap.size + 1 := by omega
    have hne_b_a : w.heap.size + 1 ≠ w.heap.size := by omega
    go_wp2_with fail
    refine (l04List_any A C n c p q xs us _ (HA.out.below HB_0.out (Nat.le_refl _)).1 (HC.out.below HB_0.out (Nat.le_refl _)).1 HN.out.1 HN.out.2.2.1).mono ?_
    rintro e w1 ⟨rfl, hb⟩
    have K_a_1 := Lib.hid (K_a_0.out.after hb)
    have K_b_1 := Lib.hid (K_b_0.out.after hb)
    have HB_1 := Lib.hid (HB_0.out.trans (hb.mono HB_0.out.size))
    clear hb
    by_cases h1 : decide (xs = us) = true
    · rw [h1]
      have H1 := Lib.hid h1
      clear h1
      have hk_a_0_1 := K_a_1.out.cell 0 _ rfl
      have hk_a_1_1 := K_a_1.out.cell 1 _ rfl
      have hk_a_2_1 := K_a_1.out.cell 2 _ rfl
      have hk_b_0_1 := K_b_1.out.cell 0 _ rfl
      have hk_b_1_1 := K_b_1.out.cell 1 _ rfl
      have hk_b_2_1 := K_b_1.out.cell 2 _ rfl
      go_wp2_with fail
      refine (l04List_any B E m d k l ys vs _ (HB.out.below HB_1.out (Nat.le_refl _)).1 (HE.out.below HB_1.out (Nat.le_refl _)).1 HN.out.2.1 HN.out.2.2.2).mono ?_
      rintro e w2 ⟨rfl, hb⟩
      have K_a_2 := Lib.hid (K_a_1.out.after hb)
      have K_b_2 := Lib.hid (K_b_1.out.after hb)
      have HB_2 := Lib.hid (HB_1.out.trans (hb.mono HB_1.out.size))
      clear hb
      clear hk_a_0_1
      clear hk_a_1_1
      clear hk_a_2_1
      clear hk_b_0_1
      clear hk_b_1_1
      clear hk_b_2_1
      obtain ⟨z, hz⟩ : ∃ z, decide (ys = vs) = z := ⟨_, rfl⟩
      have HZ := Lib.hid hz
      rw [hz]
      clear hz
      go_wp2
      go_ret
      exact ⟨by unfold eqR; rw [H1.out, HZ.out]; simp, HB_2.out⟩
    · rw [Bool.not_eq_true] at h1
      rw [h1]
      have H1 := Lib.hid h1
      clear h1
      go_wp2
      go_ret
      exact ⟨by unfold eqR; rw [H1.out]; simp, HB_1.out⟩
  · have hst2 : (s == t) = false := by simpa using hst
    have HST := Lib.hid hst2
    cases s <;> cases t <;> first | (exact absurd rfl hst) | skip
    all_goals clear hst hst2
    · go_enter Try.func40, Try.ntmps40
      have HB_0 := Lib.hid (((Below.refl w.heap.size w).alloc (Nat.le_refl _) (.cells #[.bool false, .slice A n c, .slice B m d] 33)).alloc (by simp) (.cells #[.bool true, .slice C p q, .slice E k l] 33))
      have K_a_0 := Lib.hid ((HeldL.new_at w (w.heap.size) [.bool false, .slice A n c, .slice B m d] 33 (by first | rfl | simp)).alloc (.cells #[.bool true, .slice C p q, .slice E k l] 33))
      have K_b_0 := Lib.hid (HeldL.new_at (w.alloc (.cells #[.bool false, .slice A n c, .slice B m d] 33)) (w.heap.size + 1) [.bool true, .slice C p q, .slice E k l] 33 (by first | rfl | simp))
      have hne_a_b : w.heap.size ≠ w.heap.size + 1 := by omega
      have hne_b_a : w.heap.size + 1 ≠ w.heap.size := by omega
      go_wp2
      go_ret
      exact ⟨by unfold eqR; simp, HB_0.out⟩
    · go_enter Try.func40, Try.ntmps40
      have HB_0 := Lib.hid (((Below.refl w.heap.size w).alloc (Nat.le_refl _) (.cells #[.bool true, .slice A n c, .slice B m d] 33)).alloc (by simp) (.cells #[.bool false, .slice C p q, .slice E k l] 33))
      have K_a_0 := Lib.hid ((HeldL.new_at w (w.heap.size) [.bool true, .slice A n c, .slice B m d] 33 (by first | rfl | simp)).alloc (.cells #[.bool false, .slice C p q, .slice E k l] 33))
      have K_b_0 := Lib.hid (HeldL.new_at (w.alloc (.cells #[.bool true, .slice A n c, .slice B m d] 33)) (w.heap.size + 1) [.bool false, .slice C p q, .slice E k l] 33 (by first | rfl | simp))
      have hne_a_b : w.heap.size ≠ w.heap.size + 1 := by omega
      have hne_b_a : w.heap.size + 1 ≠ w.heap.size := by omega
      go_wp2
      go_ret
      exact ⟨by unfold eqR; simp, HB_0.out⟩
set_option maxRecDepth 100000 in
set_option maxHeartbeats 4000000 in
theorem ratEqual_impl (s : Bool) (A : Option Addr) (n c : Nat) (xs : List Int) (B : Option Addr) (m d : Nat) (ys : List Int) (t : Bool) (C : Option Addr) (p q : Nat) (us : List Int) (E : Option Addr) (k l : Nat) (vs : List Int) (w : World) (hA : Arg w A n c (ints xs)) (hB : Arg w B m d (ints ys)) (hC : Arg w C p q (ints us)) (hE : Arg w E k l (ints vs)) :
    Calls Try.prog 63 #[.agg #[.bool s, .slice A n c, .slice B m d], .agg #[.bool t, .slice C p q, .slice E k l]] w fun e w' => e = .returned (.bool (eqR s xs ys t us vs)) ∧ Below w.heap.size w w' := by
  have HA := Lib.hid hA
  have HB := Lib.hid hB
  have HC := Lib.hid hC
  have HE := Lib.hid hE
  clear hA hB hC hE
  have HN := Lib.hid (And.intro HA.out.max (And.intro HB.out.max (And.intro HC.out.max HE.out.max)))
  by_cases hst : s = t
  · subst hst
    go_enter Try.func63, Try.ntmps63
    have HB_0 := Lib.hid (((Below.refl w.heap.size w).alloc (Nat.le_refl _) (.cells #[.bool s, .slice A n c, .slice B m d] 33)).alloc (by simp) (.cells #[.bool s, .slice C p q, .slice E k l] 33))
    have K_a_0 := Lib.hid ((HeldL.new_at w (w.heap.size) [.bool s, .slice A n c, .slice B m d] 33 (by first | rfl | simp)).alloc (.cells #[.bool s, .slice C p q, .slice E k l] 33))
    have K_b_0 := Lib.hid (HeldL.new_at (w.alloc (.cells #[.bool s, .slice A n c, .slice B m d] 33)) (w.heap.size + 1) [.bool s, .slice C p q, .slice E k l] 33 (by first | rfl | simp))
    have hne_a_b : w.heap.size ≠ w.heap.size + 1 := by omega
    have hne_b_a : w.heap.size + 1 ≠ w.heap.size := by omega
    go_wp2_with fail
    refine (slicesEqual_any A C n c p q xs us _ (HA.out.below HB_0.out (Nat.le_refl _)).1 (HC.out.below HB_0.out (Nat.le_refl _)).1 HN.out.1 HN.out.2.2.1).mono ?_
    rintro e w1 ⟨rfl, hb⟩
    have K_a_1 := Lib.hid (K_a_0.out.after hb)
    have K_b_1 := Lib.hid (K_b_0.out.after hb)
    have HB_1 := Lib.hid (HB_0.out.trans (hb.mono HB_0.out.size))
    clear hb
    by_cases h1 : decide (xs = us) = true
    · rw [h1]
      have H1 := Lib.hid h1
      clear h1
      have hk_a_0_1 := K_a_1.out.cell 0 _ rfl
      have hk_a_1_1 := K_a_1.out.cell 1 _ rfl
      have hk_a_2_1 := K_a_1.out.cell 2 _ rfl
      have hk_b_0_1 := K_b_1.out.cell 0 _ rfl
      have hk_b_1_1 := K_b_1.out.cell 1 _ rfl
      have hk_b_2_1 := K_b_1.out.cell 2 _ rfl
      go_wp2_with fail
      refine (slicesEqual_any B E m d k l ys vs _ (HB.out.below HB_1.out (Nat.le_refl _)).1 (HE.out.below HB_1.out (Nat.le_refl _)).1 HN.out.2.1 HN.out.2.2.2).mono ?_
      rintro e w2 ⟨rfl, hb⟩
      have K_a_2 := Lib.hid (K_a_1.out.after hb)
      have K_b_2 := Lib.hid (K_b_1.out.after hb)
      have HB_2 := Lib.hid (HB_1.out.trans (hb.mono HB_1.out.size))
      clear hb
      clear hk_a_0_1
      clear hk_a_1_1
      clear hk_a_2_1
      clear hk_b_0_1
      clear hk_b_1_1
      clear hk_b_2_1
      obtain ⟨z, hz⟩ : ∃ z, decide (ys = vs) = z := ⟨_, rfl⟩
      have HZ := Lib.hid hz
      rw [hz]
      clear hz
      go_wp2
      go_ret
      exact ⟨by unfold eqR; rw [H1.out, HZ.out]; simp, HB_2.out⟩
    · rw [Bool.not_eq_true] at h1
      rw [h1]
      have H1 := Lib.hid h1
      clear h1
      go_wp2
      go_ret
      exact ⟨by unfold eqR; rw [H1.out]; simp, HB_1.out⟩
  · have hst2 : (s == t) = false := by simpa using hst
    have HST := Lib.hid hst2
    cases s <;> cases t <;> first | (exact absurd rfl hst) | skip
    all_goals clear hst hst2
    · go_enter Try.func63, Try.ntmps63
      have HB_0 := Lib.hid (((Below.refl w.heap.size w).alloc (Nat.le_refl _) (.cells #[.bool false, .slice A n c, .slice B m d] 33)).alloc (by simp) (.cells #[.bool true, .slice C p q, .slice E k l] 33))
      have K_a_0 := Lib.hid ((HeldL.new_at w (w.heap.size) [.bool false, .slice A n c, .slice B m d] 33 (by first | rfl | simp)).alloc (.cells #[.bool true, .slice C p q, .slice E k l] 33))
      have K_b_0 := Lib.hid (HeldL.new_at (w.alloc (.cells #[.bool false, .slice A n c, .slice B m d] 33)) (w.heap.size + 1) [.bool true, .slice C p q, .slice E k l] 33 (by first | rfl | simp))
      have hne_a_b : w.heap.size ≠ w.heap.size + 1 := by omega
      have hne_b_a : w.heap.size + 1 ≠ w.heap.size := by omega
      go_wp2
      go_ret
      exact ⟨by unfold eqR; simp, HB_0.out⟩
    · go_enter Try.func63, Try.ntmps63
      have HB_0 := Lib.hid (((Below.refl w.heap.size w).alloc (Nat.le_refl _) (.cells #[.bool true, .slice A n c, .slice B m d] 33)).alloc (by simp) (.cells #[.bool false, .slice C p q, .slice E k l] 33))
      have K_a_0 := Lib.hid ((HeldL.new_at w (w.heap.size) [.bool true, .slice A n c, .slice B m d] 33 (by first | rfl | simp)).alloc (.cells #[.bool false, .slice C p q, .slice E k l] 33))
      have K_b_0 := Lib.hid (HeldL.new_at (w.alloc (.cells #[.bool true, .slice A n c, .slice B m d] 33)) (w.heap.size + 1) [.bool false, .slice C p q, .slice E k l] 33 (by first | rfl | simp))
      have hne_a_b : w.heap.size ≠ w.heap.size + 1 := by omega
      have hne_b_a : w.heap.size + 1 ≠ w.heap.size := by omega
      go_wp2
      go_ret
      exact ⟨by unfold eqR; simp, HB_0.out⟩
end Go.Proofs.Ytdilbhkdkppodaa
