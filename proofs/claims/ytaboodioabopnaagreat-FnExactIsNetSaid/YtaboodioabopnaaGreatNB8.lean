/- Joined: XRat4a XRat4b XRat4c XRatMin. Conditions: none. -/
import Derived.Test.YtaboodioabopnaaGreatProg
import Derived.Test.YtaboodioabopnaaGreatNB5
import Derived.Test.YtaboodioabopnaaGreatNB4
import Derived.Test.YtaboodioabopnaaGreatNB6
import Derived.Test.YtaboodioabopnaaGreatNB2
import Derived.Deep.DeepCutAuto
namespace Go.Proofs.YtaboodioabopnaaGreat
open Go.RowKit Nt
set_option linter.unusedVariables false
def IsZ (g : Bool) (M : List Nat) (z : Int) : Prop := sgZ z = g ∧ magZ z = M ∧ z.natAbs < 1000000000 ^ 60
theorem IsZ.back {g : Bool} {M : List Nat} {z : Int} (h : IsZ g M z) : signed g (val M) = z := by obtain ⟨rfl, rfl, h3⟩ := h; exact back_z h3
theorem IsZ.can {g : Bool} {M : List Nat} {z : Int} (h : IsZ g M z) : Canon M := by obtain ⟨rfl, rfl, h3⟩ := h; exact magZ_can z
theorem IsZ.len {g : Bool} {M : List Nat} {z : Int} (h : IsZ g M z) : M.length ≤ 60 := by obtain ⟨rfl, rfl, h3⟩ := h; exact capd_len _
theorem IsZ.ok {g : Bool} {M : List Nat} {z : Int} (h : IsZ g M z) : okB g (M.map fun x : Nat => (x : Int)) = true := by
 unfold okB
 rw [okI_of_nats h.can h.len]
 obtain ⟨rfl, rfl, h3⟩ := h
 rw [sgZ_small h3, magZ_small h3]
 by_cases hz : z < 0
 · have : 0 < (dig z.natAbs).length := dig_pos_len (by omega)
   simp [hz, this]
 · simp [hz]
theorem IsZ.z {g : Bool} {M : List Nat} {z : Int} (h : IsZ g M z) : zOf g (M.map fun x : Nat => (x : Int)) = z := by rw [zOf, toN_nats]; exact h.back
theorem IsZ.of {z : Int} (h : z.natAbs < 1000000000 ^ 60) : IsZ (sgZ z) (magZ z) z := ⟨rfl, rfl, h⟩
theorem zOf_false (vs : List Int) : zOf false vs = (val (toN vs) : Int) := by simp [zOf, signed]
theorem okB_false (vs : List Int) : okB false vs = okI vs := by simp [okB]
theorem res_yes {ok : Bool} {z : Int} (h : ok = true) : resS ok z = sgZ z ∧ resM ok z = magZ z := by subst h; simp [resS, resM]
set_option maxRecDepth 100000 in
set_option maxHeartbeats 4000000 in
theorem ratMake_impl (s : Bool) (A : Option Addr) (n c : Nat) (xs : List Int) (t : Bool) (C : Option Addr) (p q : Nat) (us : List Int) (w : World) (hA : Arg w A n c (ints xs)) (hC : Arg w C p q (ints us)) :
   Calls Tryz.prog 108 #[.agg #[.bool s, .slice A n c], .agg #[.bool t, .slice C p q]] w (OwnRR 3 (rtS (okB s xs && okB t us) (signed (s != t) (val (toN xs))) (val (toN us))) (nats (rtN (okB s xs && okB t us) (signed (s != t) (val (toN xs))) (val (toN us)))) (nats (rtD (okB s xs && okB t us) (signed (s != t) (val (toN xs))) (val (toN us)))) w) := by
 obtain ⟨z, hz⟩ : ∃ y9, signed (s != t) (val (toN xs)) = y9 := ⟨_, rfl⟩
 obtain ⟨bv, hbv⟩ : ∃ y9, val (toN us) = y9 := ⟨_, rfl⟩
 rw [hz, hbv]
 have Hz := Lib.hid hz
 have Hbv := Lib.hid hbv
 clear hz hbv
 obtain ⟨RS, hRS⟩ : ∃ y9, rtS (okB s xs && okB t us) z bv = y9 := ⟨_, rfl⟩
 obtain ⟨RN, hRN⟩ : ∃ y9, rtN (okB s xs && okB t us) z bv = y9 := ⟨_, rfl⟩
 obtain ⟨RD, hRD⟩ : ∃ y9, rtD (okB s xs && okB t us) z bv = y9 := ⟨_, rfl⟩
 rw [hRS, hRN, hRD]
 have HRS := Lib.hid hRS
 have HRN := Lib.hid hRN
 have HRD := Lib.hid hRD
 clear hRS hRN hRD
 have HA := Lib.hid hA
 have HC := Lib.hid hC
 clear hA hC
 go_enter Tryz.func108, Tryz.ntmps108
 have HB_0 := Lib.hid ((((Below.refl w.heap.size w).alloc (Nat.le_refl _) (.cells #[.bool s, .slice A n c] 35)).alloc (by simp) (.cells #[.bool t, .slice C p q] 35)).alloc (by simp; omega) (.cells #[.bool false, .slice none 0 0, .slice none 0 0] 37))
 have K_a_0 := Lib.hid (((HeldL.new_at w (w.heap.size) [.bool s, .slice A n c] 35 (by first | rfl | simp)).alloc (.cells #[.bool t, .slice C p q] 35)).alloc (.cells #[.bool false, .slice none 0 0, .slice none 0 0] 37))
 have K_b_0 := Lib.hid ((HeldL.new_at (w.alloc (.cells #[.bool s, .slice A n c] 35)) (w.heap.size + 1) [.bool t, .slice C p q] 35 (by first | rfl | simp)).alloc (.cells #[.bool false, .slice none 0 0, .slice none 0 0] 37))
 have K_res_0 := Lib.hid (HeldL.new_at ((w.alloc (.cells #[.bool s, .slice A n c] 35)).alloc (.cells #[.bool t, .slice C p q] 35)) (w.heap.size + 1 + 1) [.bool false, .slice none 0 0, .slice none 0 0] 37 (by first | rfl | simp))
 have hne_a_b : w.heap.size ≠ w.heap.size + 1 := by omega
 have hne_a_res : w.heap.size ≠ w.heap.size + 1 + 1 := by omega
 have hne_b_a : w.heap.size + 1 ≠ w.heap.size := by omega
 have hne_b_res : w.heap.size + 1 ≠ w.heap.size + 1 + 1 := by omega
 have hne_res_a : w.heap.size + 1 + 1 ≠ w.heap.size := by omega
 have hne_res_b : w.heap.size + 1 + 1 ≠ w.heap.size + 1 := by omega
 go_wp2_with fail
 refine (bigIntOk_impl s A n c xs _ (HA.out.below HB_0.out (Nat.le_refl _)).1 HA.out.max).mono ?_
 rintro e w1 ⟨rfl, hb⟩
 have K_a_1 := Lib.hid (K_a_0.out.after hb)
 have K_b_1 := Lib.hid (K_b_0.out.after hb)
 have K_res_1 := Lib.hid (K_res_0.out.after hb)
 have HB_1 := Lib.hid (HB_0.out.trans (hb.mono HB_0.out.size))
 clear hb
 by_cases hok : okB s xs = true
 · rw [hok]
   have hk_b_0_1 := K_b_1.out.cell 0 _ rfl
   have hk_b_1_1 := K_b_1.out.cell 1 _ rfl
   go_wp2_with fail
   refine (bigIntOk_impl t C p q us _ (HC.out.below HB_1.out (Nat.le_refl _)).1 HC.out.max).mono ?_
   rintro e w2 ⟨rfl, hb⟩
   have K_a_2 := Lib.hid (K_a_1.out.after hb)
   have K_b_2 := Lib.hid (K_b_1.out.after hb)
   have K_res_2 := Lib.hid (K_res_1.out.after hb)
   have HB_2 := Lib.hid (HB_1.out.trans (hb.mono HB_1.out.size))
   clear hb
   clear hk_b_0_1
   clear hk_b_1_1
   by_cases hok2 : okB t us = true
   · rw [hok2]
     obtain ⟨hex, hcx, hlx⟩ := okI_nats (okB_ok hok)
     obtain ⟨hey, hcy, hly⟩ := okI_nats (okB_ok hok2)
     rw [toN_len, HA.out.ilen] at hlx
     rw [toN_len, HC.out.ilen] at hly
     have HAn := Lib.hid (hex ▸ HA.out)
     have HCn := Lib.hid (hey ▸ HC.out)
     have HCx := Lib.hid hcx
     have HCy := Lib.hid hcy
     have HOK := Lib.hid hok
     have HOK2 := Lib.hid hok2
     clear hex hey hcx hcy hok hok2
     have HLS := Lib.hid (show loS z bv = RS by rw [← HRS.out]; exact (rtS_yes (by rw [HOK.out, HOK2.out]; rfl)).symm)
     have HLN := Lib.hid (show loN z bv = RN by rw [← HRN.out]; exact (rtN_yes (by rw [HOK.out, HOK2.out]; rfl)).symm)
     have HLD := Lib.hid (show loD z bv = RD by rw [← HRD.out]; exact (rtD_yes (by rw [HOK.out, HOK2.out]; rfl)).symm)
     have HZL := Lib.hid (show signed ((s != t) && decide (0 < n)) (val (toN xs)) = z by rw [← HAn.out.nlen, signed_len]; exact Hz.out)
     have hk_a_0_2 := K_a_2.out.cell 0 _ rfl
     have hk_a_1_2 := K_a_2.out.cell 1 _ rfl
     have hk_b_0_2 := K_b_2.out.cell 0 _ rfl
     have hk_b_1_2 := K_b_2.out.cell 1 _ rfl
     have hk_res_0_2 := K_res_2.out.cell 0 _ rfl
     have hk_res_0_2f := K_res_2.out.froz 0 _ rfl
     have hk_res_1_2 := K_res_2.out.cell 1 _ rfl
     have hk_res_1_2f := K_res_2.out.froz 1 _ rfl
     have hk_res_2_2 := K_res_2.out.cell 2 _ rfl
     have hk_res_2_2f := K_res_2.out.froz 2 _ rfl
     go_wp2
     go_region_held3 (fun w' => w'.cell? ⟨w.heap.size, 0, none⟩ = some (.bool s) ∧ w'.cell? ⟨w.heap.size, 1, none⟩ = some (.slice A n c) ∧ w'.cell? ⟨w.heap.size + 1, 0, none⟩ = some (.bool t) ∧ w'.cell? ⟨w.heap.size + 1, 1, none⟩ = some (.slice C p q)) (go_keep)
       (first
         | (go_at_call 111
            refine (bigIntWith_any (s != t) A n c _ ?_).mono ?_
            omega
            rintro e w8 ⟨rfl, hb⟩
            have K_a_3 := Lib.hid (K_a_2.out.drew.after hb)
            have K_b_3 := Lib.hid (K_b_2.out.drew.after hb)
            have K_res_3 := Lib.hid (K_res_2.out.drew.after hb)
            have HB_3 := Lib.hid (HB_2.out.drew.trans (hb.mono HB_2.out.drew.size))
            clear hb
            have hk_a_0_3 := K_a_3.out.cell 0 _ rfl
            have hk_a_1_3 := K_a_3.out.cell 1 _ rfl
            have hk_b_0_3 := K_b_3.out.cell 0 _ rfl
            have hk_b_1_3 := K_b_3.out.cell 1 _ rfl)
         | (go_at_call 75
            refine (reduced_let ((s != t) && decide (0 < n)) A n c (toN xs) C p q (toN us) z bv HZL.out Hbv.out _ (HAn.out.below HB_3.out (Nat.le_refl _)) (HCn.out.below HB_3.out (Nat.le_refl _)) HCx.out HCy.out hlx hly RS RN RD HLS.out HLN.out HLD.out).mono ?_
            rintro e w9 ⟨v9n, v9d, rfl, hon, hod, apn, apd, hb⟩
            obtain ⟨A9n, c9n, rfl⟩ := hon.shape
            obtain ⟨A9d, c9d, rfl⟩ := hod.shape
            have HO9n := Lib.hid hon
            have HO9d := Lib.hid hod
            have AP_O9n_O9d := Lib.hid apn
            have AP_O9d_O9n := Lib.hid apd
            clear hon hod apn apd
            have K_a_4 := Lib.hid (K_a_3.out.after hb)
            have K_b_4 := Lib.hid (K_b_3.out.after hb)
            have K_res_4 := Lib.hid (K_res_3.out.after hb)
            have HB_4 := Lib.hid (HB_3.out.trans (hb.mono HB_3.out.size))
            clear hb
            have hk_a_0_4 := K_a_4.out.cell 0 _ rfl
            have hk_a_1_4 := K_a_4.out.cell 1 _ rfl
            have hk_b_0_4 := K_b_4.out.cell 0 _ rfl
            have hk_b_1_4 := K_b_4.out.cell 1 _ rfl
            have hk_res_0_4 := K_res_4.out.cell 0 _ rfl
            have hk_res_0_4f := K_res_4.out.froz 0 _ rfl
            have hk_res_1_4 := K_res_4.out.cell 1 _ rfl
            have hk_res_1_4f := K_res_4.out.froz 1 _ rfl
            have hk_res_2_4 := K_res_4.out.cell 2 _ rfl
            have hk_res_2_4f := K_res_4.out.froz 2 _ rfl))
     go_wp2
     have hr0 := K_res_4.out.cell 0 _ rfl
     have hr1 := K_res_4.out.cell 1 _ rfl
     have hr2 := K_res_4.out.cell 2 _ rfl
     exact bodyPost_ret (v := .agg #[.bool RS, .slice A9n (nats RN).length c9n, .slice A9d (nats RD).length c9d]) (by simp [results, Tryz.results108, go_sem, hr0, hr1, hr2]) rfl (ownRR_close HB_4.out HO9n.out HO9d.out K_res_3.out.lt K_res_3.out.lt (by omega) AP_O9n_O9d.out AP_O9d_O9n.out)
   · rw [Bool.not_eq_true] at hok2
     rw [hok2]
     obtain rfl : RS = false := by rw [← HRS.out]; exact rtS_no (by rw [hok2, Bool.and_false])
     obtain rfl : RN = [] := by rw [← HRN.out]; exact rtN_no (by rw [hok2, Bool.and_false])
     obtain rfl : RD = [] := by rw [← HRD.out]; exact rtD_no (by rw [hok2, Bool.and_false])
     have hk_res_0_2 := K_res_2.out.cell 0 _ rfl
     have hk_res_0_2f := K_res_2.out.froz 0 _ rfl
     have hk_res_1_2 := K_res_2.out.cell 1 _ rfl
     have hk_res_1_2f := K_res_2.out.froz 1 _ rfl
     have hk_res_2_2 := K_res_2.out.cell 2 _ rfl
     have hk_res_2_2f := K_res_2.out.froz 2 _ rfl
     go_wp2
     have hr0 := K_res_2.out.cell 0 _ rfl
     have hr1 := K_res_2.out.cell 1 _ rfl
     have hr2 := K_res_2.out.cell 2 _ rfl
     refine bodyPost_ret (v := .agg #[.bool false, .slice none 0 0, .slice none 0 0]) (by simp [results, Tryz.results108, go_sem, hr0, hr1, hr2]) rfl ?_
     exact ownRR_close HB_2.out (OwnV.nil _ (w.heap.size + 1 + 1 + 1) _) (OwnV.nil _ (w.heap.size + 1 + 1 + 1) _) (Nat.lt_succ_self _) (Nat.lt_succ_self _) (by omega) (.inl rfl) (.inl rfl)
 · rw [Bool.not_eq_true] at hok
   rw [hok]
   obtain rfl : RS = false := by rw [← HRS.out]; exact rtS_no (by rw [hok, Bool.false_and])
   obtain rfl : RN = [] := by rw [← HRN.out]; exact rtN_no (by rw [hok, Bool.false_and])
   obtain rfl : RD = [] := by rw [← HRD.out]; exact rtD_no (by rw [hok, Bool.false_and])
   have hk_res_0_1 := K_res_1.out.cell 0 _ rfl
   have hk_res_0_1f := K_res_1.out.froz 0 _ rfl
   have hk_res_1_1 := K_res_1.out.cell 1 _ rfl
   have hk_res_1_1f := K_res_1.out.froz 1 _ rfl
   have hk_res_2_1 := K_res_1.out.cell 2 _ rfl
   have hk_res_2_1f := K_res_1.out.froz 2 _ rfl
   go_wp2
   have hr0 := K_res_1.out.cell 0 _ rfl
   have hr1 := K_res_1.out.cell 1 _ rfl
   have hr2 := K_res_1.out.cell 2 _ rfl
   refine bodyPost_ret (v := .agg #[.bool false, .slice none 0 0, .slice none 0 0]) (by simp [results, Tryz.results108, go_sem, hr0, hr1, hr2]) rfl ?_
   exact ownRR_close HB_1.out (OwnV.nil _ (w.heap.size + 1 + 1 + 1) _) (OwnV.nil _ (w.heap.size + 1 + 1 + 1) _) (Nat.lt_succ_self _) (Nat.lt_succ_self _) (by omega) (.inl rfl) (.inl rfl)
set_option maxRecDepth 100000 in
set_option maxHeartbeats 4000000 in
theorem ratOf_impl (x y : Int) (w : World) (hx : -9223372036854775808 ≤ x ∧ x ≤ 9223372036854775807) (hy : -9223372036854775808 ≤ y ∧ y ≤ 9223372036854775807) :
   Calls Tryz.prog 74 #[.int .i64 x, .int .i64 y] w (OwnRR 3 (rtS (okB (sgZ x) ((magZ x).map fun x : Nat => (x : Int)) && okB (sgZ y) ((magZ y).map fun x : Nat => (x : Int))) (signed (sgZ x != sgZ y) (val (toN ((magZ x).map fun x : Nat => (x : Int))))) (val (toN ((magZ y).map fun x : Nat => (x : Int))))) (nats (rtN (okB (sgZ x) ((magZ x).map fun x : Nat => (x : Int)) && okB (sgZ y) ((magZ y).map fun x : Nat => (x : Int))) (signed (sgZ x != sgZ y) (val (toN ((magZ x).map fun x : Nat => (x : Int))))) (val (toN ((magZ y).map fun x : Nat => (x : Int)))))) (nats (rtD (okB (sgZ x) ((magZ x).map fun x : Nat => (x : Int)) && okB (sgZ y) ((magZ y).map fun x : Nat => (x : Int))) (signed (sgZ x != sgZ y) (val (toN ((magZ x).map fun x : Nat => (x : Int))))) (val (toN ((magZ y).map fun x : Nat => (x : Int)))))) w) := by
 obtain ⟨RS, hRS⟩ : ∃ y9, rtS (okB (sgZ x) ((magZ x).map fun x : Nat => (x : Int)) && okB (sgZ y) ((magZ y).map fun x : Nat => (x : Int))) (signed (sgZ x != sgZ y) (val (toN ((magZ x).map fun x : Nat => (x : Int))))) (val (toN ((magZ y).map fun x : Nat => (x : Int)))) = y9 := ⟨_, rfl⟩
 obtain ⟨RN, hRN⟩ : ∃ y9, rtN (okB (sgZ x) ((magZ x).map fun x : Nat => (x : Int)) && okB (sgZ y) ((magZ y).map fun x : Nat => (x : Int))) (signed (sgZ x != sgZ y) (val (toN ((magZ x).map fun x : Nat => (x : Int))))) (val (toN ((magZ y).map fun x : Nat => (x : Int)))) = y9 := ⟨_, rfl⟩
 obtain ⟨RD, hRD⟩ : ∃ y9, rtD (okB (sgZ x) ((magZ x).map fun x : Nat => (x : Int)) && okB (sgZ y) ((magZ y).map fun x : Nat => (x : Int))) (signed (sgZ x != sgZ y) (val (toN ((magZ x).map fun x : Nat => (x : Int))))) (val (toN ((magZ y).map fun x : Nat => (x : Int)))) = y9 := ⟨_, rfl⟩
 rw [hRS, hRN, hRD]
 have HRS := Lib.hid hRS
 have HRN := Lib.hid hRN
 have HRD := Lib.hid hRD
 clear hRS hRN hRD
 have Hx := Lib.hid hx
 have Hy := Lib.hid hy
 clear hx hy
 obtain ⟨gx, hgx⟩ : ∃ y9, sgZ x = y9 := ⟨_, rfl⟩
 obtain ⟨gy, hgy⟩ : ∃ y9, sgZ y = y9 := ⟨_, rfl⟩
 obtain ⟨mx, hmx⟩ : ∃ y9, magZ x = y9 := ⟨_, rfl⟩
 obtain ⟨my, hmy⟩ : ∃ y9, magZ y = y9 := ⟨_, rfl⟩
 rw [hgx, hgy, hmx, hmy] at HRS HRN HRD
 have Hgx := Lib.hid hgx
 have Hgy := Lib.hid hgy
 have Hmx := Lib.hid hmx
 have Hmy := Lib.hid hmy
 clear hgx hgy hmx hmy
 go_enter Tryz.func74, Tryz.ntmps74
 have HB_0 := Lib.hid ((Below.refl w.heap.size w).alloc (Nat.le_refl _) (.cells #[.bool false, .slice none 0 0, .slice none 0 0] 37))
 have K_res_0 := Lib.hid (HeldL.new_at w (w.heap.size) [.bool false, .slice none 0 0, .slice none 0 0] 37 (by first | rfl | simp))
 go_wp2_with fail
 have HCx := Lib.hid (bigIntOf_impl x (w.alloc (.cells #[.bool false, .slice none 0 0, .slice none 0 0] 37)) Hx.out)
 rw [Hgx.out, Hmx.out] at HCx
 refine (HCx.out).mono ?_
 rintro e wx ⟨vx, rfl, ho, hb⟩
 obtain ⟨Ax, cx, rfl⟩ := ho.shape
 have HOx := Lib.hid ho
 clear ho
 have K_res_1 := Lib.hid (K_res_0.out.after hb)
 have HB_1 := Lib.hid (HB_0.out.trans (hb.mono HB_0.out.size))
 clear hb
 go_wp2_with fail
 have HCy := Lib.hid (bigIntOf_impl y wx Hy.out)
 rw [Hgy.out, Hmy.out] at HCy
 refine (HCy.out).mono ?_
 rintro e wy ⟨vy, rfl, ho, hb⟩
 obtain ⟨Ay, cy, rfl⟩ := ho.shape
 have HOy := Lib.hid ho
 have AP_Ox_Oy := Lib.hid (OwnV.apart HOx.out ho (Nat.le_refl _))
 have AP_Oy_Ox := Lib.hid (OwnV.apart' ho HOx.out (Nat.le_refl _))
 clear ho
 have K_res_2 := Lib.hid (K_res_1.out.after hb)
 have H_Ox_2 := Lib.hid (OwnV.below (w := wx) HOx.out hb)
 have HB_2 := Lib.hid (HB_1.out.trans (hb.mono HB_1.out.size))
 clear hb
 go_wp2_with fail
 have HCM := Lib.hid (ratMake_impl gx Ax (nats mx).length cx (mx.map fun x : Nat => (x : Int)) gy Ay (nats my).length cy (my.map fun x : Nat => (x : Int)) _ H_Ox_2.out.arg HOy.out.arg)
 rw [HRS.out, HRN.out, HRD.out] at HCM
 refine (HCM.out).mono ?_
 rintro e w9 ⟨v9n, v9d, rfl, hon, hod, apn, apd, hb⟩
 obtain ⟨A9n, c9n, rfl⟩ := hon.shape
 have HO9n := Lib.hid hon
 have AP_Ox_O9n := Lib.hid (OwnV.apart H_Ox_2.out hon (Nat.le_refl _))
 have AP_O9n_Ox := Lib.hid (OwnV.apart' hon H_Ox_2.out (Nat.le_refl _))
 have AP_Oy_O9n := Lib.hid (OwnV.apart HOy.out hon (Nat.le_refl _))
 have AP_O9n_Oy := Lib.hid (OwnV.apart' hon HOy.out (Nat.le_refl _))
 obtain ⟨A9d, c9d, rfl⟩ := hod.shape
 have HO9d := Lib.hid hod
 have AP_Ox_O9d := Lib.hid (OwnV.apart H_Ox_2.out hod (Nat.le_refl _))
 have AP_O9d_Ox := Lib.hid (OwnV.apart' hod H_Ox_2.out (Nat.le_refl _))
 have AP_Oy_O9d := Lib.hid (OwnV.apart HOy.out hod (Nat.le_refl _))
 have AP_O9d_Oy := Lib.hid (OwnV.apart' hod HOy.out (Nat.le_refl _))
 have AP_O9n_O9d := Lib.hid apn
 have AP_O9d_O9n := Lib.hid apd
 clear hon hod apn apd
 have K_res_3 := Lib.hid (K_res_2.out.after hb)
 have H_Ox_3 := Lib.hid (OwnV.below (w := wy) H_Ox_2.out hb)
 have H_Oy_3 := Lib.hid (OwnV.below (w := wy) HOy.out hb)
 have HB_3 := Lib.hid (HB_2.out.trans (hb.mono HB_2.out.size))
 clear hb
 have hk_res_0_3 := K_res_3.out.cell 0 _ rfl
 have hk_res_0_3f := K_res_3.out.froz 0 _ rfl
 have hk_res_1_3 := K_res_3.out.cell 1 _ rfl
 have hk_res_1_3f := K_res_3.out.froz 1 _ rfl
 have hk_res_2_3 := K_res_3.out.cell 2 _ rfl
 have hk_res_2_3f := K_res_3.out.froz 2 _ rfl
 go_wp2
 have hr0 := K_res_3.out.cell 0 _ rfl
 have hr1 := K_res_3.out.cell 1 _ rfl
 have hr2 := K_res_3.out.cell 2 _ rfl
 exact bodyPost_ret (v := .agg #[.bool RS, .slice A9n (nats RN).length c9n, .slice A9d (nats RD).length c9d]) (by simp [results, Tryz.results74, go_sem, hr0, hr1, hr2]) rfl (ownRR_close HB_3.out HO9n.out HO9d.out K_res_2.out.lt K_res_2.out.lt (by omega) AP_O9n_O9d.out AP_O9d_O9n.out)
set_option maxRecDepth 100000 in
set_option maxHeartbeats 4000000 in
theorem raisedBy_at (s : Bool) (A : Option Addr) (n c : Nat) (xs : List Int) (B : Option Addr) (m d : Nat) (ys : List Int) (E : Option Addr) (k l : Nat) (vs : List Int) (z : Int) (g : Bool) (M : List Nat) (hz : zOf s xs * (val (toN vs) : Int) = z) (hI : IsZ g M z) (h1 : okB s xs = true) (h2 : okI vs = true) (w : World) (hA : Arg w A n c (ints xs)) (hE : Arg w E k l (ints vs)) :
   Calls Tryz.prog 77 #[.agg #[.bool s, .slice A n c, .slice B m d], .slice E k l] w (OwnRB 3 g (nats M) w) := by
 have hA_max := hA.max
 have hE_max := hE.max
 have HC := Lib.hid (fun u hA hE => bigIntMul_impl s false A E n c k l xs vs u hA hE hA_max hE_max)
 have hr := res_yes (ok := okB s xs && okB false vs) (z := zOf s xs * zOf false vs) (by rw [h1, okB_false, h2]; rfl)
 rw [hr.1, hr.2, zOf_false, hz, hI.1, hI.2.1] at HC
 clear hr h1 h2 hz hI hA_max hE_max
 have HA := Lib.hid hA
 have HE := Lib.hid hE
 clear hA hE
 go_enter Tryz.func77, Tryz.ntmps77
 have HB_0 := Lib.hid (((Below.refl w.heap.size w).alloc (Nat.le_refl _) (.cells #[.bool s, .slice A n c, .slice B m d] 37)).alloc (by simp) (.cells #[.bool false, .slice none 0 0] 35))
 have K_a_0 := Lib.hid ((HeldL.new_at w (w.heap.size) [.bool s, .slice A n c, .slice B m d] 37 (by first | rfl | simp)).alloc (.cells #[.bool false, .slice none 0 0] 35))
 have K_res_0 := Lib.hid (HeldL.new_at (w.alloc (.cells #[.bool s, .slice A n c, .slice B m d] 37)) (w.heap.size + 1) [.bool false, .slice none 0 0] 35 (by first | rfl | simp))
 have hne_a_res : w.heap.size ≠ w.heap.size + 1 := by omega
 have hne_res_a : w.heap.size + 1 ≠ w.heap.size := by omega
 go_wp2_with fail
 refine (HC.out _ (HA.out.below HB_0.out (Nat.le_refl _)).1 (HE.out.below HB_0.out (Nat.le_refl _)).1).mono ?_
 rintro e w9 ⟨v9, rfl, ho, hb⟩
 obtain ⟨A9, c9, rfl⟩ := ho.shape
 have HO9 := Lib.hid ho
 clear ho
 have K_a_1 := Lib.hid (K_a_0.out.after hb)
 have K_res_1 := Lib.hid (K_res_0.out.after hb)
 have HB_1 := Lib.hid (HB_0.out.trans (hb.mono HB_0.out.size))
 clear hb
 have hk_res_0_1 := K_res_1.out.cell 0 _ rfl
 have hk_res_0_1f := K_res_1.out.froz 0 _ rfl
 have hk_res_1_1 := K_res_1.out.cell 1 _ rfl
 have hk_res_1_1f := K_res_1.out.froz 1 _ rfl
 go_wp2
 have hr0 := K_res_1.out.cell 0 _ rfl
 have hr1 := K_res_1.out.cell 1 _ rfl
 exact bodyPost_ret (v := .agg #[.bool g, .slice A9 (nats M).length c9]) (by simp [results, Tryz.results77, go_sem, hr0, hr1]) rfl (ownRB_close HB_1.out HO9.out K_res_0.out.lt (by omega))
end Go.Proofs.YtaboodioabopnaaGreat
namespace Go.Proofs.YtaboodioabopnaaGreat
open Go.RowKit Nt
set_option linter.unusedVariables false
theorem bigIntAdd_let (g1 g2 : Bool) (A B : Option Addr) (n c m d : Nat) (M1 M2 : List Nat) (z1 z2 z : Int) (g : Bool) (M : List Nat) (h1 : IsZ g1 M1 z1) (h2 : IsZ g2 M2 z2) (hz : z1 + z2 = z) (hI : IsZ g M z) (w : World) (hA : Arg w A n c (nats M1)) (hB : Arg w B m d (nats M2)) :
   Calls Tryz.prog 76 #[.agg #[.bool g1, .slice A n c], .agg #[.bool g2, .slice B m d]] w (OwnRB 3 g (nats M) w) := by
 have h := bigIntAdd_impl g1 g2 A B n c m d _ _ w hA.1 hB.1 hA.max hB.max
 have hr := res_yes (ok := okB g1 (M1.map fun x : Nat => (x : Int)) && okB g2 (M2.map fun x : Nat => (x : Int))) (z := zOf g1 (M1.map fun x : Nat => (x : Int)) + zOf g2 (M2.map fun x : Nat => (x : Int))) (by rw [h1.ok, h2.ok]; rfl)
 rw [hr.1, hr.2, h1.z, h2.z, hz, hI.1, hI.2.1] at h
 exact h
theorem natMul_let (A B : Option Addr) (n c m d : Nat) (xs ys : List Int) (h1 : okI xs = true) (h2 : okI ys = true) (hl : val (toN xs) * val (toN ys) < 1000000000 ^ 60) (w : World) (hA : Arg w A n c (ints xs)) (hB : Arg w B m d (ints ys)) :
   Calls Tryz.prog 78 #[.slice A n c, .slice B m d] w (OwnR 3 (nats (dig (val (toN xs) * val (toN ys)))) w) := by
 have h := natMul_impl A B n c m d xs ys w hA.1 hB.1 hA.max hB.max
 rw [mulN_yes h1 h2, capd_of hl] at h
 exact h
set_option maxRecDepth 100000 in
set_option maxHeartbeats 4000000 in
theorem plusR_at (s : Bool) (A : Option Addr) (n c : Nat) (xs : List Int) (B : Option Addr) (m d : Nat) (ys : List Int) (t : Bool) (C : Option Addr) (p q : Nat) (us : List Int) (E : Option Addr) (k l : Nat) (vs : List Int) (z : Int) (bv : Nat) (hz : zOf s xs * (val (toN vs) : Int) + zOf t us * (val (toN ys) : Int) = z) (hbv : val (toN ys) * val (toN vs) = bv) (hok : Semi s xs ys) (hok2 : Semi t us vs) (w : World) (hA : Arg w A n c (ints xs)) (hB : Arg w B m d (ints ys)) (hC : Arg w C p q (ints us)) (hE : Arg w E k l (ints vs)) :
   Calls Tryz.prog 39 #[.agg #[.bool s, .slice A n c, .slice B m d], .agg #[.bool t, .slice C p q, .slice E k l]] w (OwnRR 3 (loS z bv) (nats (loN z bv)) (nats (loD z bv)) w) := by
 obtain ⟨RS, hRS⟩ : ∃ y9, loS z bv = y9 := ⟨_, rfl⟩
 obtain ⟨RN, hRN⟩ : ∃ y9, loN z bv = y9 := ⟨_, rfl⟩
 obtain ⟨RD, hRD⟩ : ∃ y9, loD z bv = y9 := ⟨_, rfl⟩
 rw [hRS, hRN, hRD]
 have HLS := Lib.hid hRS
 have HLN := Lib.hid hRN
 have HLD := Lib.hid hRD
 clear hRS hRN hRD
 obtain ⟨hp1, hp2, hp3, hp4, hp5, hp6⟩ := Semi.parts hok
 obtain ⟨hq1, hq2, hq3, hq4, hq5, hq6⟩ := Semi.parts hok2
 obtain ⟨hvx, hvy, hval⟩ := Semi.nats hok
 obtain ⟨hwx, hwy, hval2⟩ := Semi.nats hok2
 have HZS := Lib.hid (show z.natAbs < 1000000000 ^ 60 by rw [← hz]; exact add_small0 hval hval2)
 obtain ⟨g8, M8, hI8⟩ : ∃ g M, IsZ g M z := ⟨_, _, IsZ.of HZS.out⟩
 have HI8 := Lib.hid hI8
 clear hI8
 obtain ⟨z1, hz1⟩ : ∃ y9, zOf s xs * (val (toN vs) : Int) = y9 := ⟨_, rfl⟩
 obtain ⟨z2, hz2⟩ : ∃ y9, zOf t us * (val (toN ys) : Int) = y9 := ⟨_, rfl⟩
 rw [hz1, hz2] at hz
 obtain ⟨g1, M1, hI1⟩ : ∃ g M, IsZ g M z1 := ⟨_, _, IsZ.of (by rw [← hz1]; exact one_small hval.1 hval.2.2.1 hval2.2.1 hval2.2.2.2.1)⟩
 obtain ⟨g2, M2, hI2⟩ : ∃ g M, IsZ g M z2 := ⟨_, _, IsZ.of (by rw [← hz2]; exact one_small hval2.1 hval2.2.2.1 hval.2.1 hval.2.2.2.1)⟩
 have HV := Lib.hid hval
 have HV2 := Lib.hid hval2
 clear hval hval2 hvx hvy hwx hwy hok hok2 hp3 hp4 hp5 hp6 hq3 hq4 hq5 hq6
 have HBM := Lib.hid (pow_up (mul_small HV.out.2.1 HV.out.2.2.2.1 HV2.out.2.1 HV2.out.2.2.2.1) (by decide : 48 ≤ 60))
 have HBL := Lib.hid (mul_len HV.out.2.1 HV.out.2.2.2.1 HV2.out.2.1 HV2.out.2.2.2.1)
 have HA := Lib.hid hA
 have HB := Lib.hid hB
 have HC := Lib.hid hC
 have HE := Lib.hid hE
 have Hbv := Lib.hid hbv
 have Hp1 := Lib.hid hp1
 have Hp2 := Lib.hid hp2
 have Hq1 := Lib.hid hq1
 have Hq2 := Lib.hid hq2
 clear hA hB hC hE hbv hp1 hp2 hq1 hq2
 have HI1 := Lib.hid hI1
 have HI2 := Lib.hid hI2
 have Hz1 := Lib.hid hz1
 have Hz2 := Lib.hid hz2
 have Hz := Lib.hid hz
 clear hI1 hI2 hz1 hz2 hz
 go_enter Tryz.func39, Tryz.ntmps39
 have HB_0 := Lib.hid ((((Below.refl w.heap.size w).alloc (Nat.le_refl _) (.cells #[.bool s, .slice A n c, .slice B m d] 37)).alloc (by simp) (.cells #[.bool t, .slice C p q, .slice E k l] 37)).alloc (by simp; omega) (.cells #[.bool false, .slice none 0 0, .slice none 0 0] 37))
 have K_a_0 := Lib.hid (((HeldL.new_at w (w.heap.size) [.bool s, .slice A n c, .slice B m d] 37 (by first | rfl | simp)).alloc (.cells #[.bool t, .slice C p q, .slice E k l] 37)).alloc (.cells #[.bool false, .slice none 0 0, .slice none 0 0] 37))
 have K_b_0 := Lib.hid ((HeldL.new_at (w.alloc (.cells #[.bool s, .slice A n c, .slice B m d] 37)) (w.heap.size + 1) [.bool t, .slice C p q, .slice E k l] 37 (by first | rfl | simp)).alloc (.cells #[.bool false, .slice none 0 0, .slice none 0 0] 37))
 have K_res_0 := Lib.hid (HeldL.new_at ((w.alloc (.cells #[.bool s, .slice A n c, .slice B m d] 37)).alloc (.cells #[.bool t, .slice C p q, .slice E k l] 37)) (w.heap.size + 1 + 1) [.bool false, .slice none 0 0, .slice none 0 0] 37 (by first | rfl | simp))
 have hne_a_b : w.heap.size ≠ w.heap.size + 1 := by omega
 have hne_a_res : w.heap.size ≠ w.heap.size + 1 + 1 := by omega
 have hne_b_a : w.heap.size + 1 ≠ w.heap.size := by omega
 have hne_b_res : w.heap.size + 1 ≠ w.heap.size + 1 + 1 := by omega
 have hne_res_a : w.heap.size + 1 + 1 ≠ w.heap.size := by omega
 have hne_res_b : w.heap.size + 1 + 1 ≠ w.heap.size + 1 := by omega
 go_wp2
 go_region_held3 (fun w' => w'.cell? ⟨w.heap.size, 0, none⟩ = some (.bool s) ∧ w'.cell? ⟨w.heap.size, 1, none⟩ = some (.slice A n c) ∧ w'.cell? ⟨w.heap.size, 2, none⟩ = some (.slice B m d) ∧ w'.cell? ⟨w.heap.size + 1, 0, none⟩ = some (.bool t) ∧ w'.cell? ⟨w.heap.size + 1, 1, none⟩ = some (.slice C p q) ∧ w'.cell? ⟨w.heap.size + 1, 2, none⟩ = some (.slice E k l)) (go_keep)
   (first
     | (go_at_call_of 77 (Value.agg #[Value.bool s, Value.slice A n c, Value.slice B m d])
        refine (raisedBy_at s A n c xs B m d ys E k l vs z1 g1 M1 Hz1.out HI1.out Hp1.out Hq2.out _ (HA.out.below HB_0.out.drew (Nat.le_refl _)) (HE.out.below HB_0.out.drew (Nat.le_refl _))).mono ?_
        rintro e wr1 ⟨v1, rfl, ho, hb⟩
        obtain ⟨A1, c1, rfl⟩ := ho.shape
        have HO1 := Lib.hid ho
        clear ho
        have K_a_1 := Lib.hid (K_a_0.out.drew.after hb)
        have K_b_1 := Lib.hid (K_b_0.out.drew.after hb)
        have K_res_1 := Lib.hid (K_res_0.out.drew.after hb)
        have HB_1 := Lib.hid (HB_0.out.drew.trans (hb.mono HB_0.out.drew.size))
        clear hb
        have hk_a_0_1 := K_a_1.out.cell 0 _ rfl
        have hk_a_1_1 := K_a_1.out.cell 1 _ rfl
        have hk_a_2_1 := K_a_1.out.cell 2 _ rfl
        have hk_b_0_1 := K_b_1.out.cell 0 _ rfl
        have hk_b_1_1 := K_b_1.out.cell 1 _ rfl
        have hk_b_2_1 := K_b_1.out.cell 2 _ rfl)
     | (go_at_call_of 77 (Value.agg #[Value.bool t, Value.slice C p q, Value.slice E k l])
        refine (raisedBy_at t C p q us E k l vs B m d ys z2 g2 M2 Hz2.out HI2.out Hq1.out Hp2.out _ (HC.out.below HB_1.out (Nat.le_refl _)) (HB.out.below HB_1.out (Nat.le_refl _))).mono ?_
        rintro e wr2 ⟨v2, rfl, ho, hb⟩
        obtain ⟨A2, c2, rfl⟩ := ho.shape
        have HO2 := Lib.hid ho
        clear ho
        have K_a_2 := Lib.hid (K_a_1.out.after hb)
        have K_b_2 := Lib.hid (K_b_1.out.after hb)
        have K_res_2 := Lib.hid (K_res_1.out.after hb)
        have H_O1_2 := Lib.hid (OwnV.below (w := wr1) HO1.out hb)
        have HB_2 := Lib.hid (HB_1.out.trans (hb.mono HB_1.out.size))
        clear hb
        have hk_a_0_2 := K_a_2.out.cell 0 _ rfl
        have hk_a_1_2 := K_a_2.out.cell 1 _ rfl
        have hk_a_2_2 := K_a_2.out.cell 2 _ rfl
        have hk_b_0_2 := K_b_2.out.cell 0 _ rfl
        have hk_b_1_2 := K_b_2.out.cell 1 _ rfl
        have hk_b_2_2 := K_b_2.out.cell 2 _ rfl)
     | (go_at_call 76
        refine (bigIntAdd_let g1 g2 A1 A2 _ c1 _ c2 M1 M2 z1 z2 z g8 M8 HI1.out HI2.out Hz.out HI8.out _ H_O1_2.out.arg HO2.out.arg).mono ?_
        rintro e ws ⟨v8, rfl, ho, hb⟩
        obtain ⟨A8, c8, rfl⟩ := ho.shape
        have HO8 := Lib.hid ho
        clear ho
        have K_a_3 := Lib.hid (K_a_2.out.after hb)
        have K_b_3 := Lib.hid (K_b_2.out.after hb)
        have K_res_3 := Lib.hid (K_res_2.out.after hb)
        have H_O1_3 := Lib.hid (OwnV.below (w := wr2) H_O1_2.out hb)
        have H_O2_3 := Lib.hid (OwnV.below (w := wr2) HO2.out hb)
        have HB_3 := Lib.hid (HB_2.out.trans (hb.mono HB_2.out.size))
        clear hb
        have hk_a_0_3 := K_a_3.out.cell 0 _ rfl
        have hk_a_1_3 := K_a_3.out.cell 1 _ rfl
        have hk_a_2_3 := K_a_3.out.cell 2 _ rfl
        have hk_b_0_3 := K_b_3.out.cell 0 _ rfl
        have hk_b_1_3 := K_b_3.out.cell 1 _ rfl
        have hk_b_2_3 := K_b_3.out.cell 2 _ rfl)
     | (go_at_call 78
        refine (natMul_let B E m d k l ys vs Hp2.out Hq2.out HBM.out _ (HB.out.below HB_3.out (Nat.le_refl _)) (HE.out.below HB_3.out (Nat.le_refl _))).mono ?_
        rintro e wn ⟨vd, rfl, ho, hb⟩
        obtain ⟨Ad, cd, rfl⟩ := ho.shape
        have HOd := Lib.hid ho
        clear ho
        have K_a_4 := Lib.hid (K_a_3.out.after hb)
        have K_b_4 := Lib.hid (K_b_3.out.after hb)
        have K_res_4 := Lib.hid (K_res_3.out.after hb)
        have H_O1_4 := Lib.hid (OwnV.below (w := ws) H_O1_3.out hb)
        have H_O2_4 := Lib.hid (OwnV.below (w := ws) H_O2_3.out hb)
        have H_O8_4 := Lib.hid (OwnV.below (w := ws) HO8.out hb)
        have HB_4 := Lib.hid (HB_3.out.trans (hb.mono HB_3.out.size))
        clear hb
        have hk_a_0_4 := K_a_4.out.cell 0 _ rfl
        have hk_a_1_4 := K_a_4.out.cell 1 _ rfl
        have hk_a_2_4 := K_a_4.out.cell 2 _ rfl
        have hk_b_0_4 := K_b_4.out.cell 0 _ rfl
        have hk_b_1_4 := K_b_4.out.cell 1 _ rfl
        have hk_b_2_4 := K_b_4.out.cell 2 _ rfl)
     | (go_at_call 75
        refine (reduced_let g8 A8 (nats M8).length c8 M8 Ad _ cd (dig (val (toN ys) * val (toN vs))) z bv HI8.out.back ?_ _ H_O8_4.out.arg HOd.out.arg HI8.out.can (dig_can _) ?_ ?_ RS RN RD HLS.out HLN.out HLD.out).mono ?_
        rw [val_dig]; exact Hbv.out
        rw [nats_len]; exact HI8.out.len
        rw [nats_len]; exact HBL.out
        rintro e w9 ⟨v9n, v9d, rfl, hon, hod, apn, apd, hb⟩
        obtain ⟨A9n, c9n, rfl⟩ := hon.shape
        obtain ⟨A9d, c9d, rfl⟩ := hod.shape
        have HO9n := Lib.hid hon
        have HO9d := Lib.hid hod
        have AP_O9n_O9d := Lib.hid apn
        have AP_O9d_O9n := Lib.hid apd
        clear hon hod apn apd
        have K_a_5 := Lib.hid (K_a_4.out.after hb)
        have K_b_5 := Lib.hid (K_b_4.out.after hb)
        have K_res_5 := Lib.hid (K_res_4.out.after hb)
        have H_O1_5 := Lib.hid (OwnV.below (w := wn) H_O1_4.out hb)
        have H_O2_5 := Lib.hid (OwnV.below (w := wn) H_O2_4.out hb)
        have H_O8_5 := Lib.hid (OwnV.below (w := wn) H_O8_4.out hb)
        have H_Od_5 := Lib.hid (OwnV.below (w := wn) HOd.out hb)
        have HB_5 := Lib.hid (HB_4.out.trans (hb.mono HB_4.out.size))
        clear hb
        have hk_a_0_5 := K_a_5.out.cell 0 _ rfl
        have hk_a_1_5 := K_a_5.out.cell 1 _ rfl
        have hk_a_2_5 := K_a_5.out.cell 2 _ rfl
        have hk_b_0_5 := K_b_5.out.cell 0 _ rfl
        have hk_b_1_5 := K_b_5.out.cell 1 _ rfl
        have hk_b_2_5 := K_b_5.out.cell 2 _ rfl
        have hk_res_0_5 := K_res_5.out.cell 0 _ rfl
        have hk_res_0_5f := K_res_5.out.froz 0 _ rfl
        have hk_res_1_5 := K_res_5.out.cell 1 _ rfl
        have hk_res_1_5f := K_res_5.out.froz 1 _ rfl
        have hk_res_2_5 := K_res_5.out.cell 2 _ rfl
        have hk_res_2_5f := K_res_5.out.froz 2 _ rfl))
 go_wp2
 have hr0 := K_res_5.out.cell 0 _ rfl
 have hr1 := K_res_5.out.cell 1 _ rfl
 have hr2 := K_res_5.out.cell 2 _ rfl
 exact bodyPost_ret (v := .agg #[.bool RS, .slice A9n (nats RN).length c9n, .slice A9d (nats RD).length c9d]) (by simp [results, Tryz.results39, go_sem, hr0, hr1, hr2]) rfl (ownRR_close HB_5.out HO9n.out HO9d.out K_res_4.out.lt K_res_4.out.lt (by omega) AP_O9n_O9d.out AP_O9d_O9n.out)
end Go.Proofs.YtaboodioabopnaaGreat
namespace Go.Proofs.YtaboodioabopnaaGreat
open Go.RowKit Nt
set_option linter.unusedVariables false
theorem cmpB_zero {s : Bool} {xs : List Int} (h : okB s xs = true) : cmpB s false xs [] = cmpZ (zOf s xs) 0 := by
 rw [cmpB_yes h (by decide)]
 have h1 : IsZ s (toN xs) (zOf s xs) := by
   obtain ⟨_, hc, _⟩ := okI_nats (okB_ok h)
   have hb := okB_abs h
   refine ⟨?_, ?_, hb⟩
   · rw [zOf, sgZ_signed, capd_ok h, toN_len]
     cases s
     · rfl
     · simp [okB_len h]
   · rw [zOf, magZ_signed, capd_ok h]
 have h2 : val (toN []) = 0 := rfl
 have h3 := cmp_small (a := zOf s xs) (b := 0) h1.2.2 (by simp)
 have e1 : sgZ 0 = false := by rw [sgZ_small (by simp)]; rfl
 have e2 : magZ 0 = [] := by rw [magZ_small (by simp)]; exact dig_zero
 rw [h1.1, h1.2.1, e1, e2] at h3
 exact h3
set_option maxRecDepth 100000 in
set_option maxHeartbeats 4000000 in
theorem signR_at (s : Bool) (A : Option Addr) (n c : Nat) (xs : List Int) (B : Option Addr) (m d : Nat) (ys : List Int) (Q : Int) (hQ : cmpZ (zOf s xs) 0 = Q) (hok : okR s xs ys = true) (w : World) (hA : Arg w A n c (ints xs)) (hB : Arg w B m d (ints ys)) :
   Calls Tryz.prog 95 #[.agg #[.bool s, .slice A n c, .slice B m d]] w fun e w' => e = .returned (.int .i64 Q) ∧ Below w.heap.size w w' := by
 have HCQ := Lib.hid ((cmpB_zero (okR_parts hok).1).trans hQ)
 clear hQ hok
 have HA := Lib.hid hA
 have HB := Lib.hid hB
 clear hA hB
 go_enter Tryz.func95, Tryz.ntmps95
 have HB_0 := Lib.hid ((Below.refl w.heap.size w).alloc (Nat.le_refl _) (.cells #[.bool s, .slice A n c, .slice B m d] 37))
 have K_a_0 := Lib.hid (HeldL.new_at w (w.heap.size) [.bool s, .slice A n c, .slice B m d] 37 (by first | rfl | simp))
 go_wp2_with fail
 refine (bigIntCmp_impl s false A none n c 0 0 xs [] _ (HA.out.below HB_0.out (Nat.le_refl _)).1 (VRow.empty _ _) HA.out.max (Nat.zero_le _)).mono ?_
 rintro e w9 ⟨rfl, hb⟩
 rw [HCQ.out]
 have K_a_1 := Lib.hid (K_a_0.out.after hb)
 have HB_1 := Lib.hid (HB_0.out.trans (hb.mono HB_0.out.size))
 clear hb
 go_wp2
 go_ret
 exact ⟨rfl, HB_1.out⟩
set_option maxRecDepth 100000 in
set_option maxHeartbeats 4000000 in
theorem ratSign_impl (s : Bool) (A : Option Addr) (n c : Nat) (xs : List Int) (B : Option Addr) (m d : Nat) (ys : List Int) (w : World) (hA : Arg w A n c (ints xs)) (hB : Arg w B m d (ints ys)) :
   Calls Tryz.prog 59 #[.agg #[.bool s, .slice A n c, .slice B m d]] w fun e w' => e = .returned (.int .i64 (sgnR s xs ys)) ∧ Below w.heap.size w w' := by
 obtain ⟨Q, hQ⟩ : ∃ y9, sgnR s xs ys = y9 := ⟨_, rfl⟩
 rw [hQ]
 have HQ := Lib.hid hQ
 have HA := Lib.hid hA
 have HB := Lib.hid hB
 clear hQ hA hB
 go_enter Tryz.func59, Tryz.ntmps59
 have HB_0 := Lib.hid ((Below.refl w.heap.size w).alloc (Nat.le_refl _) (.cells #[.bool s, .slice A n c, .slice B m d] 37))
 have K_a_0 := Lib.hid (HeldL.new_at w (w.heap.size) [.bool s, .slice A n c, .slice B m d] 37 (by first | rfl | simp))
 go_wp2_with fail
 refine (isValidR_any s A n c xs B m d ys _ (HA.out.below HB_0.out (Nat.le_refl _)) (HB.out.below HB_0.out (Nat.le_refl _))).mono ?_
 rintro e w1 ⟨rfl, hb⟩
 have K_a_1 := Lib.hid (K_a_0.out.after hb)
 have HB_1 := Lib.hid (HB_0.out.trans (hb.mono HB_0.out.size))
 clear hb
 by_cases hok : okR s xs ys = true
 · rw [hok]
   have HOK := Lib.hid hok
   clear hok
   have HCQ := Lib.hid (show cmpZ (zOf s xs) 0 = Q by rw [← HQ.out]; unfold sgnR; rw [if_pos HOK.out])
   have hk_a_0_1 := K_a_1.out.cell 0 _ rfl
   have hk_a_1_1 := K_a_1.out.cell 1 _ rfl
   have hk_a_2_1 := K_a_1.out.cell 2 _ rfl
   go_wp2_with fail
   refine (signR_at s A n c xs B m d ys Q HCQ.out HOK.out _ (HA.out.below HB_1.out (Nat.le_refl _)) (HB.out.below HB_1.out (Nat.le_refl _))).mono ?_
   rintro e w9 ⟨rfl, hb⟩
   have K_a_2 := Lib.hid (K_a_1.out.after hb)
   have HB_2 := Lib.hid (HB_1.out.trans (hb.mono HB_1.out.size))
   clear hb
   clear hk_a_0_1
   clear hk_a_1_1
   clear hk_a_2_1
   go_wp2
   go_ret
   exact ⟨rfl, HB_2.out⟩
 · rw [Bool.not_eq_true] at hok
   rw [hok]
   obtain rfl : Q = 0 := by rw [← HQ.out]; exact sgnR_no hok
   clear hok
   go_wp2
   go_ret
   exact ⟨rfl, HB_1.out⟩
theorem int_rat {x : Int} (hx : -9223372036854775808 ≤ x ∧ x ≤ 9223372036854775807) : rtS (okB (sgZ x) ((magZ x).map fun x : Nat => (x : Int)) && okB (sgZ 1) ((magZ 1).map fun x : Nat => (x : Int))) (signed (sgZ x != sgZ 1) (val (toN ((magZ x).map fun x : Nat => (x : Int))))) (val (toN ((magZ 1).map fun x : Nat => (x : Int)))) = sgZ x ∧ rtN (okB (sgZ x) ((magZ x).map fun x : Nat => (x : Int)) && okB (sgZ 1) ((magZ 1).map fun x : Nat => (x : Int))) (signed (sgZ x != sgZ 1) (val (toN ((magZ x).map fun x : Nat => (x : Int))))) (val (toN ((magZ 1).map fun x : Nat => (x : Int)))) = magZ x ∧ rtD (okB (sgZ x) ((magZ x).map fun x : Nat => (x : Int)) && okB (sgZ 1) ((magZ 1).map fun x : Nat => (x : Int))) (signed (sgZ x != sgZ 1) (val (toN ((magZ x).map fun x : Nat => (x : Int))))) (val (toN ((magZ 1).map fun x : Nat => (x : Int)))) = [1] := by
 have hs := int_small hx
 have h1 := IsZ.of hs
 have h2 : IsZ (sgZ 1) (magZ 1) 1 := IsZ.of (int_small (by decide))
 have hok : (okB (sgZ x) ((magZ x).map fun x : Nat => (x : Int)) && okB (sgZ 1) ((magZ 1).map fun x : Nat => (x : Int))) = true := by rw [h1.ok, h2.ok]; rfl
 rw [rtS_yes hok, rtN_yes hok, rtD_yes hok, toN_nats, toN_nats]
 have e1 : sgZ 1 = false := by rw [sgZ_small (int_small (by decide))]; rfl
 have e2 : magZ 1 = [1] := by rw [magZ_small (int_small (by decide))]; exact dig_one
 have e3 : val [1] = 1 := rfl
 have e4 : (sgZ x != false) = sgZ x := by cases sgZ x <;> rfl
 have e5 : val (magZ x) = x.natAbs := by rw [magZ_small hs, val_dig]
 have hg : Nat.gcd x.natAbs 1 = 1 := Nat.gcd_one_right _
 have hl : (dig x.natAbs).length ≤ 24 := dig_len (Nat.lt_of_le_of_lt (show x.natAbs ≤ 9223372036854775808 by omega) (by decide))
 have hL : okL x.natAbs 1 = true := okL_bound (by decide) hl (by rw [dig_one]; decide)
 have hz : signed (sgZ x) x.natAbs = x := by have := h1.back; rw [e5] at this; exact this
 rw [e1, e2, e3, e4, e5]
 obtain ⟨q1, q2, q3⟩ := low_some hz hL
 rw [hg, Nat.div_one] at q1 q2
 rw [hg, Nat.div_one, dig_one] at q3
 rw [hz, q1, q2, q3]
 refine ⟨?_, ?_, rfl⟩
 · rw [sgZ_small hs]
   by_cases hn : x < 0
   · have : 0 < (dig x.natAbs).length := dig_pos_len (by omega)
     simp [hn, this]
   · simp [hn]
 · rw [magZ_small hs]
set_option maxRecDepth 100000 in
set_option maxHeartbeats 4000000 in
theorem ratFromInt_impl (x : Int) (w : World) (hx : -9223372036854775808 ≤ x ∧ x ≤ 9223372036854775807) :
   Calls Tryz.prog 38 #[.int .i64 x] w (OwnRR 3 (sgZ x) (nats (magZ x)) (nats ([1])) w) := by
 have HC := Lib.hid (fun u => ratOf_impl x 1 u hx (by decide))
 obtain ⟨h1, h2, h3⟩ := int_rat hx
 rw [h1, h2, h3] at HC
 clear h1 h2 h3 hx
 obtain ⟨gx, hgx⟩ : ∃ y9, sgZ x = y9 := ⟨_, rfl⟩
 obtain ⟨mx, hmx⟩ : ∃ y9, magZ x = y9 := ⟨_, rfl⟩
 rw [hgx, hmx] at HC ⊢
 clear hgx hmx
 go_enter Tryz.func38, Tryz.ntmps38
 have HB_0 := Lib.hid ((Below.refl w.heap.size w).alloc (Nat.le_refl _) (.cells #[.bool false, .slice none 0 0, .slice none 0 0] 37))
 have K_res_0 := Lib.hid (HeldL.new_at w (w.heap.size) [.bool false, .slice none 0 0, .slice none 0 0] 37 (by first | rfl | simp))
 go_wp2_with fail
 refine (HC.out _).mono ?_
 rintro e w9 ⟨v9n, v9d, rfl, hon, hod, apn, apd, hb⟩
 obtain ⟨A9n, c9n, rfl⟩ := hon.shape
 have HO9n := Lib.hid hon
 obtain ⟨A9d, c9d, rfl⟩ := hod.shape
 have HO9d := Lib.hid hod
 have AP_O9n_O9d := Lib.hid apn
 have AP_O9d_O9n := Lib.hid apd
 clear hon hod apn apd
 have K_res_1 := Lib.hid (K_res_0.out.after hb)
 have HB_1 := Lib.hid (HB_0.out.trans (hb.mono HB_0.out.size))
 clear hb
 have hk_res_0_1 := K_res_1.out.cell 0 _ rfl
 have hk_res_0_1f := K_res_1.out.froz 0 _ rfl
 have hk_res_1_1 := K_res_1.out.cell 1 _ rfl
 have hk_res_1_1f := K_res_1.out.froz 1 _ rfl
 have hk_res_2_1 := K_res_1.out.cell 2 _ rfl
 have hk_res_2_1f := K_res_1.out.froz 2 _ rfl
 go_wp2
 have hr0 := K_res_1.out.cell 0 _ rfl
 have hr1 := K_res_1.out.cell 1 _ rfl
 have hr2 := K_res_1.out.cell 2 _ rfl
 exact bodyPost_ret (v := .agg #[.bool gx, .slice A9n (nats mx).length c9n, .slice A9d (nats [1]).length c9d]) (by simp [results, Tryz.results38, go_sem, hr0, hr1, hr2]) rfl (ownRR_close HB_1.out HO9n.out HO9d.out K_res_0.out.lt K_res_0.out.lt (by omega) AP_O9n_O9d.out AP_O9d_O9n.out)
end Go.Proofs.YtaboodioabopnaaGreat
namespace Go.Proofs.YtaboodioabopnaaGreat
open Go.RowKit Nt
set_option linter.unusedVariables false
end Go.Proofs.YtaboodioabopnaaGreat
