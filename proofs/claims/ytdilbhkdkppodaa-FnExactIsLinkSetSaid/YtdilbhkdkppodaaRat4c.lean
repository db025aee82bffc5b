/- Fractions: opposites, the order and integers, in the program. Conditions: none. -/
import Derived.Test.YtdilbhkdkppodaaProg
import Derived.Test.YtdilbhkdkppodaaRat4b
import Derived.Test.YtdilbhkdkppodaaRatNeg
import Derived.Test.YtdilbhkdkppodaaRat3c
namespace Go.Proofs.Ytdilbhkdkppodaa
open Go.RowKit Nt
set_option linter.unusedVariables false

theorem neg_small {s : Bool} {xs ys : List Int} (h : okR s xs ys = true) : (-(zOf s xs)).natAbs < 1000000000 ^ 60 := by rw [Int.natAbs_neg]; exact okB_abs (okR_parts h).1
set_option maxRecDepth 100000 in
set_option maxHeartbeats 4000000 in
theorem compareR_at (s : Bool) (A : Option Addr) (n c : Nat) (xs : List Int) (B : Option Addr) (m d : Nat) (ys : List Int) (t : Bool) (C : Option Addr) (p q : Nat) (us : List Int) (E : Option Addr) (k l : Nat) (vs : List Int) (Q : Int) (hQ : cmpZ (zOf s xs * (val (toN vs) : Int)) (zOf t us * (val (toN ys) : Int)) = Q) (hok : okR s xs ys = true) (hok2 : okR t us vs = true) (w : World) (hA : Arg w A n c (ints xs)) (hB : Arg w B m d (ints ys)) (hC : Arg w C p q (ints us)) (hE : Arg w E k l (ints vs)) :
    Calls Try.prog 125 #[.agg #[.bool s, .slice A n c, .slice B m d], .agg #[.bool t, .slice C p q, .slice E k l]] w fun e w' => e = .returned (.int .i64 Q) ∧ Below w.heap.size w w' := by
  obtain ⟨hp1, hp2, hp3, hp4, hp5, hp6⟩ := okR_parts hok
  obtain ⟨hq1, hq2, hq3, hq4, hq5, hq6⟩ := okR_parts hok2
  obtain ⟨hvx, hvy, hval⟩ := okR_nats hok
  obtain ⟨hwx, hwy, hval2⟩ := okR_nats hok2
  obtain ⟨z1, hz1⟩ : ∃ y9, zOf s xs * (val (toN vs) : Int) = y9 := ⟨_, rfl⟩
  obtain ⟨z2, hz2⟩ : ∃ y9, zOf t us * (val (toN ys) : Int) = y9 := ⟨_, rfl⟩
  rw [hz1, hz2] at hQ
  obtain ⟨g1, M1, hI1⟩ : ∃ g M, IsZ g M z1 := ⟨_, _, IsZ.of (by rw [← hz1]; exact one_small hval.1 hval.2.2.1 hval2.2.1 hval2.2.2.2.1)⟩
  obtain ⟨g2, M2, hI2⟩ : ∃ g M, IsZ g M z2 := ⟨_, _, IsZ.of (by rw [← hz2]; exact one_small hval2.1 hval2.2.2.1 hval.2.1 hval.2.2.2.1)⟩
  have HCQ := Lib.hid (show cmpB g1 g2 (M1.map fun x : Nat => (x : Int)) (M2.map fun x : Nat => (x : Int)) = Q by
    rw [cmpB_yes hI1.ok hI2.ok, toN_nats, toN_nats, ← hI1.1, ← hI2.1, ← hI1.2.1, ← hI2.2.1, cmp_small hI1.2.2 hI2.2.2]
    exact hQ)
  clear hQ
  have HV := Lib.hid hval
  have HV2 := Lib.hid hval2
  clear hval hval2 hvx hvy hwx hwy hok hok2 hp3 hp4 hp5 hp6 hq3 hq4 hq5 hq6
  have HA := Lib.hid hA
  have HB := Lib.hid hB
  have HC := Lib.hid hC
  have HE := Lib.hid hE
  have Hp1 := Lib.hid hp1
  have Hp2 := Lib.hid hp2
  have Hq1 := Lib.hid hq1
  have Hq2 := Lib.hid hq2
  clear hA hB hC hE hp1 hp2 hq1 hq2
  have HI1 := Lib.hid hI1
  have HI2 := Lib.hid hI2
  have Hz1 := Lib.hid hz1
  have Hz2 := Lib.hid hz2
  clear hI1 hI2 hz1 hz2
  go_enter Try.func125, Try.ntmps125
  have HB_0 := Lib.hid (((Below.refl w.heap.size w).alloc (Nat.le_refl _) (.cells #[.bool s, .slice A n c, .slice B m d] 33)).alloc (by simp) (.cells #[.bool t, .slice C p q, .slice E k l] 33))
  have K_a_0 := Lib.hid ((HeldL.new_at w (w.heap.size) [.bool s, .slice A n c, .slice B m d] 33 (by first | rfl | simp)).alloc (.cells #[.bool t, .slice C p q, .slice E k l] 33))
  have K_b_0 := Lib.hid (HeldL.new_at (w.alloc (.cells #[.bool s, .slice A n c, .slice B m d] 33)) (w.heap.size + 1) [.bool t, .slice C p q, .slice E k l] 33 (by first | rfl | simp))
  have hne_a_b : w.heap.size ≠ w.heap.size + 1 := by omega
  have hne_b_a : w.heap.size + 1 ≠ w.heap.size := by omega
  go_wp2
  go_region_held3 (fun w' => w'.cell? ⟨w.heap.size, 0, none⟩ = some (.bool s) ∧ w'.cell? ⟨w.heap.size, 1, none⟩ = some (.slice A n c) ∧ w'.cell? ⟨w.heap.size, 2, none⟩ = some (.slice B m d) ∧ w'.cell? ⟨w.heap.size + 1, 0, none⟩ = some (.bool t) ∧ w'.cell? ⟨w.heap.size + 1, 1, none⟩ = some (.slice C p q) ∧ w'.cell? ⟨w.heap.size + 1, 2, none⟩ = some (.slice E k l)) (go_keep)
    (first
      | (go_at_call_of 126 (Value.agg #[Value.bool s, Value.slice A n c, Value.slice B m d])
         refine (raisedBy_at s A n c xs B m d ys E k l vs z1 g1 M1 Hz1.out HI1.out Hp1.out Hq2.out _ (HA.out.below HB_0.out.drew (Nat.le_refl _)) (HE.out.below HB_0.out.drew (Nat.le_refl _))).mono ?_
         rintro e wr1 ⟨v1, rfl, ho, hb⟩
         obtain ⟨A1, c1, rfl⟩ := ho.shape
         have HO1 := Lib.hid ho
         clear ho
         have K_a_1 := Lib.hid (K_a_0.out.drew.after hb)
         have K_b_1 := Lib.hid (K_b_0.out.drew.after hb)
         have HB_1 := Lib.hid (HB_0.out.drew.trans (hb.mono HB_0.out.drew.size))
         clear hb
         have hk_a_0_1 := K_a_1.out.cell 0 _ rfl
         have hk_a_1_1 := K_a_1.out.cell 1 _ rfl
         have hk_a_2_1 := K_a_1.out.cell 2 _ rfl
         have hk_b_0_1 := K_b_1.out.cell 0 _ rfl
         have hk_b_1_1 := K_b_1.out.cell 1 _ rfl
         have hk_b_2_1 := K_b_1.out.cell 2 _ rfl)
      | (go_at_call_of 126 (Value.agg #[Value.bool t, Value.slice C p q, Value.slice E k l])
         refine (raisedBy_at t C p q us E k l vs B m d ys z2 g2 M2 Hz2.out HI2.out Hq1.out Hp2.out _ (HC.out.below HB_1.out (Nat.le_refl _)) (HB.out.below HB_1.out (Nat.le_refl _))).mono ?_
         rintro e wr2 ⟨v2, rfl, ho, hb⟩
         obtain ⟨A2, c2, rfl⟩ := ho.shape
         have HO2 := Lib.hid ho
         clear ho
         have K_a_2 := Lib.hid (K_a_1.out.after hb)
         have K_b_2 := Lib.hid (K_b_1.out.after hb)
         have H_O1_2 := Lib.hid (OwnV.below (w := wr1) HO1.out hb)
         have HB_2 := Lib.hid (HB_1.out.trans (hb.mono HB_1.out.size))
         clear hb
         have hk_a_0_2 := K_a_2.out.cell 0 _ rfl
         have hk_a_1_2 := K_a_2.out.cell 1 _ rfl
         have hk_a_2_2 := K_a_2.out.cell 2 _ rfl
         have hk_b_0_2 := K_b_2.out.cell 0 _ rfl
         have hk_b_1_2 := K_b_2.out.cell 1 _ rfl
         have hk_b_2_2 := K_b_2.out.cell 2 _ rfl)
      | (go_at_call 71
         refine (bigIntCmp_impl g1 g2 A1 A2 _ c1 _ c2 (M1.map fun x : Nat => (x : Int)) (M2.map fun x : Nat => (x : Int)) _ H_O1_2.out.row HO2.out.row H_O1_2.out.arg.max HO2.out.arg.max).mono ?_
         rintro e w9 ⟨rfl, hb⟩
         rw [HCQ.out]
         have K_a_3 := Lib.hid (K_a_2.out.after hb)
         have K_b_3 := Lib.hid (K_b_2.out.after hb)
         have H_O1_3 := Lib.hid (OwnV.below (w := wr2) H_O1_2.out hb)
         have H_O2_3 := Lib.hid (OwnV.below (w := wr2) HO2.out hb)
         have HB_3 := Lib.hid (HB_2.out.trans (hb.mono HB_2.out.size))
         clear hb
         have hk_a_0_3 := K_a_3.out.cell 0 _ rfl
         have hk_a_1_3 := K_a_3.out.cell 1 _ rfl
         have hk_a_2_3 := K_a_3.out.cell 2 _ rfl
         have hk_b_0_3 := K_b_3.out.cell 0 _ rfl
         have hk_b_1_3 := K_b_3.out.cell 1 _ rfl
         have hk_b_2_3 := K_b_3.out.cell 2 _ rfl))
  go_wp2
  go_ret
  exact ⟨rfl, HB_3.out⟩
theorem cmpB_zero {s : Bool} {xs : List Int} (h : okB s xs = true) : cmpB s false xs [] = cmpZ (zOf s xs) 0 := by
  rw [cmpB_yes h (by decide)]
  have h1 : IsZ s (toN xs) (zOf s xs) := by
    obtain ⟨_, hc, _⟩ := okI_nats (okB_ok h)
    have hb := okB_abs h
    refine ⟨?_, ?_, hb⟩
    · rw [zOf, sgZ_signed, capd_ok h, toN_len]
      cases s
      · rfl
      · simp [okB_len h]
    · rw [zOf, magZ_signed, capd_ok h]
  have h2 : val (toN []) = 0 := rfl
  have h3 := cmp_small (a := zOf s xs) (b := 0) h1.2.2 (by simp)
  have e1 : sgZ 0 = false := by rw [sgZ_small (by simp)]; rfl
  have e2 : magZ 0 = [] := by rw [magZ_small (by simp)]; exact dig_zero
  rw [h1.1, h1.2.1, e1, e2] at h3
  exact h3
set_option maxRecDepth 100000 in
set_option maxHeartbeats 4000000 in
theorem signR_at (s : Bool) (A : Option Addr) (n c : Nat) (xs : List Int) (B : Option Addr) (m d : Nat) (ys : List Int) (Q : Int) (hQ : cmpZ (zOf s xs) 0 = Q) (hok : okR s xs ys = true) (w : World) (hA : Arg w A n c (ints xs)) (hB : Arg w B m d (ints ys)) :
    Calls Try.prog 52 #[.agg #[.bool s, .slice A n c, .slice B m d]] w fun e w' => e = .returned (.int .i64 Q) ∧ Below w.heap.size w w' := by
  have HCQ := Lib.hid ((cmpB_zero (okR_parts hok).1).trans hQ)
  clear hQ hok
  have HA := Lib.hid hA
  have HB := Lib.hid hB
  clear hA hB
  go_enter Try.func52, Try.ntmps52
  have HB_0 := Lib.hid ((Below.refl w.heap.size w).alloc (Nat.le_refl _) (.cells #[.bool s, .slice A n c, .slice B m d] 33))
  have K_a_0 := Lib.hid (HeldL.new_at w (w.heap.size) [.bool s, .slice A n c, .slice B m d] 33 (by first | rfl | simp))
  go_wp2_with fail
  refine (bigIntCmp_impl s false A none n c 0 0 xs [] _ (HA.out.below HB_0.out (Nat.le_refl _)).1 (VRow.empty _ _) HA.out.max (Nat.zero_le _)).mono ?_
  rintro e w9 ⟨rfl, hb⟩
  rw [HCQ.out]
  have K_a_1 := Lib.hid (K_a_0.out.after hb)
  have HB_1 := Lib.hid (HB_0.out.trans (hb.mono HB_0.out.size))
  clear hb
  go_wp2
  go_ret
  exact ⟨rfl, HB_1.out⟩
set_option maxRecDepth 100000 in
set_option maxHeartbeats 4000000 in
theorem ratSign_impl (s : Bool) (A : Option Addr) (n c : Nat) (xs : List Int) (B : Option Addr) (m d : Nat) (ys : List Int) (w : World) (hA : Arg w A n c (ints xs)) (hB : Arg w B m d (ints ys)) :
    Calls Try.prog 29 #[.agg #[.bool s, .slice A n c, .slice B m d]] w fun e w' => e = .returned (.int .i64 (sgnR s xs ys)) ∧ Below w.heap.size w w' := by
  obtain ⟨Q, hQ⟩ : ∃ y9, sgnR s xs ys = y9 := ⟨_, rfl⟩
  rw [hQ]
  have HQ := Lib.hid hQ
  have HA := Lib.hid hA
  have HB := Lib.hid hB
  clear hQ hA hB
  go_enter Try.func29, Try.ntmps29
  have HB_0 := Lib.hid ((Below.refl w.heap.size w).alloc (Nat.le_refl _) (.cells #[.bool s, .slice A n c, .slice B m d] 33))
  have K_a_0 := Lib.hid (HeldL.new_at w (w.heap.size) [.bool s, .slice A n c, .slice B m d] 33 (by first | rfl | simp))
  go_wp2_with fail
  refine (isValidR_any s A n c xs B m d ys _ (HA.out.below HB_0.out (Nat.le_refl _)) (HB.out.below HB_0.out (Nat.le_refl _))).mono ?_
  rintro e w1 ⟨rfl, hb⟩
  have K_a_1 := Lib.hid (K_a_0.out.after hb)
  have HB_1 := Lib.hid (HB_0.out.trans (hb.mono HB_0.out.size))
  clear hb
  by_cases hok : okR s xs ys = true
  · rw [hok]
    have HOK := Lib.hid hok
    clear hok
    have HCQ := Lib.hid (show cmpZ (zOf s xs) 0 = Q by rw [← HQ.out]; unfold sgnR; rw [if_pos HOK.out])
    have hk_a_0_1 := K_a_1.out.cell 0 _ rfl
    have hk_a_1_1 := K_a_1.out.cell 1 _ rfl
    have hk_a_2_1 := K_a_1.out.cell 2 _ rfl
    go_wp2_with fail
    refine (signR_at s A n c xs B m d ys Q HCQ.out HOK.out _ (HA.out.below HB_1.out (Nat.le_refl _)) (HB.out.below HB_1.out (Nat.le_refl _))).mono ?_
    rintro e w9 ⟨rfl, hb⟩
    have K_a_2 := Lib.hid (K_a_1.out.after hb)
    have HB_2 := Lib.hid (HB_1.out.trans (hb.mono HB_1.out.size))
    clear hb
    clear hk_a_0_1
    clear hk_a_1_1
    clear hk_a_2_1
    go_wp2
    go_ret
    exact ⟨rfl, HB_2.out⟩
  · rw [Bool.not_eq_true] at hok
    rw [hok]
    obtain rfl : Q = 0 := by rw [← HQ.out]; exact sgnR_no hok
    clear hok
    go_wp2
    go_ret
    exact ⟨rfl, HB_1.out⟩
theorem int_rat {x : Int} (hx : -9223372036854775808 ≤ x ∧ x ≤ 9223372036854775807) : rtS (okB (sgZ x) ((magZ x).map fun x : Nat => (x : Int)) && okB (sgZ 1) ((magZ 1).map fun x : Nat => (x : Int))) (signed (sgZ x != sgZ 1) (val (toN ((magZ x).map fun x : Nat => (x : Int))))) (val (toN ((magZ 1).map fun x : Nat => (x : Int)))) = sgZ x ∧ rtN (okB (sgZ x) ((magZ x).map fun x : Nat => (x : Int)) && okB (sgZ 1) ((magZ 1).map fun x : Nat => (x : Int))) (signed (sgZ x != sgZ 1) (val (toN ((magZ x).map fun x : Nat => (x : Int))))) (val (toN ((magZ 1).map fun x : Nat => (x : Int)))) = magZ x ∧ rtD (okB (sgZ x) ((magZ x).map fun x : Nat => (x : Int)) && okB (sgZ 1) ((magZ 1).map fun x : Nat => (x : Int))) (signed (sgZ x != sgZ 1) (val (toN ((magZ x).map fun x : Nat => (x : Int))))) (val (toN ((magZ 1).map fun x : Nat => (x : Int)))) = [1] := by
  have hs := int_small hx
  have h1 := IsZ.of hs
  have h2 : IsZ (sgZ 1) (magZ 1) 1 := IsZ.of (int_small (by decide))
  have hok : (okB (sgZ x) ((magZ x).map fun x : Nat => (x : Int)) && okB (sgZ 1) ((magZ 1).map fun x : Nat => (x : Int))) = true := by rw [h1.ok, h2.ok]; rfl
  rw [rtS_yes hok, rtN_yes hok, rtD_yes hok, toN_nats, toN_nats]
  have e1 : sgZ 1 = false := by rw [sgZ_small (int_small (by decide))]; rfl
  have e2 : magZ 1 = [1] := by rw [magZ_small (int_small (by decide))]; exact dig_one
  have e3 : val [1] = 1 := rfl
  have e4 : (sgZ x != false) = sgZ x := by cases sgZ x <;> rfl
  have e5 : val (magZ x) = x.natAbs := by rw [magZ_small hs, val_dig]
  have hg : Nat.gcd x.natAbs 1 = 1 := Nat.gcd_one_right _
  have hl : (dig x.natAbs).length ≤ 24 := dig_len (Nat.lt_of_le_of_lt (show x.natAbs ≤ 9223372036854775808 by omega) (by decide))
  have hL : okL x.natAbs 1 = true := okL_bound (by decide) hl (by rw [dig_one]; decide)
  have hz : signed (sgZ x) x.natAbs = x := by have := h1.back; rw [e5] at this; exact this
  rw [e1, e2, e3, e4, e5]
  obtain ⟨q1, q2, q3⟩ := low_some hz hL
  rw [hg, Nat.div_one] at q1 q2
  rw [hg, Nat.div_one, dig_one] at q3
  rw [hz, q1, q2, q3]
  refine ⟨?_, ?_, rfl⟩
  · rw [sgZ_small hs]
    by_cases hn : x < 0
    · have : 0 < (dig x.natAbs).length := dig_pos_len (by omega)
      simp [hn, this]
    · simp [hn]
  · rw [magZ_small hs]
set_option maxRecDepth 100000 in
set_option maxHeartbeats 4000000 in
theorem ratFromInt_impl (x : Int) (w : World) (hx : -9223372036854775808 ≤ x ∧ x ≤ 9223372036854775807) :
    Calls Try.prog 35 #[.int .i64 x] w (OwnRR 3 (sgZ x) (nats (magZ x)) (nats ([1])) w) := by
  have HC := Lib.hid (fun u => ratOf_impl x 1 u hx (by decide))
  obtain ⟨h1, h2, h3⟩ := int_rat hx
  rw [h1, h2, h3] at HC
  clear h1 h2 h3 hx
  obtain ⟨gx, hgx⟩ : ∃ y9, sgZ x = y9 := ⟨_, rfl⟩
  obtain ⟨mx, hmx⟩ : ∃ y9, magZ x = y9 := ⟨_, rfl⟩
  rw [hgx, hmx] at HC ⊢
  clear hgx hmx
  go_enter Try.func35, Try.ntmps35
  have HB_0 := Lib.hid ((Below.refl w.heap.size w).alloc (Nat.le_refl _) (.cells #[.bool false, .slice none 0 0, .slice none 0 0] 33))
  have K_res_0 := Lib.hid (HeldL.new_at w (w.heap.size) [.bool false, .slice none 0 0, .slice none 0 0] 33 (by first | rfl | simp))
  go_wp2_with fail
  refine (HC.out _).mono ?_
  rintro e w9 ⟨v9n, v9d, rfl, hon, hod, apn, apd, hb⟩
  obtain ⟨A9n, c9n, rfl⟩ := hon.shape
  have HO9n := Lib.hid hon
  obtain ⟨A9d, c9d, rfl⟩ := hod.shape
  have HO9d := Lib.hid hod
  have AP_O9n_O9d := Lib.hid apn
  have AP_O9d_O9n := Lib.hid apd
  clear hon hod apn apd
  have K_res_1 := Lib.hid (K_res_0.out.after hb)
  have HB_1 := Lib.hid (HB_0.out.trans (hb.mono HB_0.out.size))
  clear hb
  have hk_res_0_1 := K_res_1.out.cell 0 _ rfl
  have hk_res_0_1f := K_res_1.out.froz 0 _ rfl
  have hk_res_1_1 := K_res_1.out.cell 1 _ rfl
  have hk_res_1_1f := K_res_1.out.froz 1 _ rfl
  have hk_res_2_1 := K_res_1.out.cell 2 _ rfl
  have hk_res_2_1f := K_res_1.out.froz 2 _ rfl
  go_wp2
  have hr0 := K_res_1.out.cell 0 _ rfl
  have hr1 := K_res_1.out.cell 1 _ rfl
  have hr2 := K_res_1.out.cell 2 _ rfl
  exact bodyPost_ret (v := .agg #[.bool gx, .slice A9n (nats mx).length c9n, .slice A9d (nats [1]).length c9d]) (by simp [results, Try.results35, go_sem, hr0, hr1, hr2]) rfl (ownRR_close HB_1.out HO9n.out HO9d.out K_res_0.out.lt K_res_0.out.lt (by omega) AP_O9n_O9d.out AP_O9d_O9n.out)
end Go.Proofs.Ytdilbhkdkppodaa
