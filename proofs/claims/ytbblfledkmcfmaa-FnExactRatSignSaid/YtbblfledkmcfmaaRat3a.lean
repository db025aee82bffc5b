/- Fractions: the functions of the model. Conditions: none. -/
import Derived.Test.YtbblfledkmcfmaaProg
import Derived.Test.YtbblfledkmcfmaaRat2
import Derived.Test.YtbblfledkmcfmaaBigOf
import Derived.Deep.DeepCutAuto
namespace Go.Proofs.Ytbblfledkmcfmaa
open Go.RowKit Nt
set_option linter.unusedVariables false

set_option maxRecDepth 100000 in
set_option maxHeartbeats 4000000 in
theorem ratMake_spec (s : Bool) (A : Option Addr) (n c : Nat) (xs : List Int) (t : Bool) (C : Option Addr) (p q : Nat) (us : List Int) (w : World) (hA : Arg w A n c (ints xs)) (hC : Arg w C p q (ints us)) :
    Calls Try.prog 21 #[.agg #[.bool s, .slice A n c], .agg #[.bool t, .slice C p q]] w (OwnRR 3 (rtS (okB s xs && okB t us) (signed (s != t) (val (toN xs))) (val (toN us))) (nats (rtN (okB s xs && okB t us) (signed (s != t) (val (toN xs))) (val (toN us)))) (nats (rtD (okB s xs && okB t us) (signed (s != t) (val (toN xs))) (val (toN us)))) w) := by
  obtain ⟨z, hz⟩ : ∃ y9, signed (s != t) (val (toN xs)) = y9 := ⟨_, rfl⟩
  obtain ⟨bv, hbv⟩ : ∃ y9, val (toN us) = y9 := ⟨_, rfl⟩
  rw [hz, hbv]
  have Hz := Lib.hid hz
  have Hbv := Lib.hid hbv
  clear hz hbv
  obtain ⟨RS, hRS⟩ : ∃ y9, rtS (okB s xs && okB t us) z bv = y9 := ⟨_, rfl⟩
  obtain ⟨RN, hRN⟩ : ∃ y9, rtN (okB s xs && okB t us) z bv = y9 := ⟨_, rfl⟩
  obtain ⟨RD, hRD⟩ : ∃ y9, rtD (okB s xs && okB t us) z bv = y9 := ⟨_, rfl⟩
  rw [hRS, hRN, hRD]
  have HRS := Lib.hid hRS
  have HRN := Lib.hid hRN
  have HRD := Lib.hid hRD
  clear hRS hRN hRD
  have HA := Lib.hid hA
  have HC := Lib.hid hC
  clear hA hC
  go_enter Try.func21, Try.ntmps21
  have HB_0 := Lib.hid ((((Below.refl w.heap.size w).alloc (Nat.le_refl _) (.cells #[.bool s, .slice A n c] 29)).alloc (by simp) (.cells #[.bool t, .slice C p q] 29)).alloc (by simp; omega) (.cells #[.bool false, .slice none 0 0, .slice none 0 0] 31))
  have K_a_0 := Lib.hid (((HeldL.new_at w (w.heap.size) [.bool s, .slice A n c] 29 (by first | rfl | simp)).alloc (.cells #[.bool t, .slice C p q] 29)).alloc (.cells #[.bool false, .slice none 0 0, .slice none 0 0] 31))
  have K_b_0 := Lib.hid ((HeldL.new_at (w.alloc (.cells #[.bool s, .slice A n c] 29)) (w.heap.size + 1) [.bool t, .slice C p q] 29 (by first | rfl | simp)).alloc (.cells #[.bool false, .slice none 0 0, .slice none 0 0] 31))
  have K_res_0 := Lib.hid (HeldL.new_at ((w.alloc (.cells #[.bool s, .slice A n c] 29)).alloc (.cells #[.bool t, .slice C p q] 29)) (w.heap.size + 1 + 1) [.bool false, .slice none 0 0, .slice none 0 0] 31 (by first | rfl | simp))
  have hne_a_b : w.heap.size ≠ w.heap.size + 1 := by omega
  have hne_a_res : w.heap.size ≠ w.heap.size + 1 + 1 := by omega
  have hne_b_a : w.heap.size + 1 ≠ w.heap.size := by omega
  have hne_b_res : w.heap.size + 1 ≠ w.heap.size + 1 + 1 := by omega
  have hne_res_a : w.heap.size + 1 + 1 ≠ w.heap.size := by omega
  have hne_res_b : w.heap.size + 1 + 1 ≠ w.heap.size + 1 := by omega
  go_wp2_with fail
  refine (bigIntOk_spec s A n c xs _ (HA.out.below HB_0.out (Nat.le_refl _)).1 HA.out.max).mono ?_
  rintro e w1 ⟨rfl, hb⟩
  have K_a_1 := Lib.hid (K_a_0.out.after hb)
  have K_b_1 := Lib.hid (K_b_0.out.after hb)
  have K_res_1 := Lib.hid (K_res_0.out.after hb)
  have HB_1 := Lib.hid (HB_0.out.trans (hb.mono HB_0.out.size))
  clear hb
  by_cases hok : okB s xs = true
  · rw [hok]
    have hk_b_0_1 := K_b_1.out.cell 0 _ rfl
    have hk_b_1_1 := K_b_1.out.cell 1 _ rfl
    go_wp2_with fail
    refine (bigIntOk_spec t C p q us _ (HC.out.below HB_1.out (Nat.le_refl _)).1 HC.out.max).mono ?_
    rintro e w2 ⟨rfl, hb⟩
    have K_a_2 := Lib.hid (K_a_1.out.after hb)
    have K_b_2 := Lib.hid (K_b_1.out.after hb)
    have K_res_2 := Lib.hid (K_res_1.out.after hb)
    have HB_2 := Lib.hid (HB_1.out.trans (hb.mono HB_1.out.size))
    clear hb
    clear hk_b_0_1
    clear hk_b_1_1
    by_cases hok2 : okB t us = true
    · rw [hok2]
      obtain ⟨hex, hcx, hlx⟩ := okI_nats (okB_ok hok)
      obtain ⟨hey, hcy, hly⟩ := okI_nats (okB_ok hok2)
      rw [toN_len, HA.out.ilen] at hlx
      rw [toN_len, HC.out.ilen] at hly
      have HAn := Lib.hid (hex ▸ HA.out)
      have HCn := Lib.hid (hey ▸ HC.out)
      have HCx := Lib.hid hcx
      have HCy := Lib.hid hcy
      have HOK := Lib.hid hok
      have HOK2 := Lib.hid hok2
      clear hex hey hcx hcy hok hok2
      have HLS := Lib.hid (show loS z bv = RS by rw [← HRS.out]; exact (rtS_yes (by rw [HOK.out, HOK2.out]; rfl)).symm)
      have HLN := Lib.hid (show loN z bv = RN by rw [← HRN.out]; exact (rtN_yes (by rw [HOK.out, HOK2.out]; rfl)).symm)
      have HLD := Lib.hid (show loD z bv = RD by rw [← HRD.out]; exact (rtD_yes (by rw [HOK.out, HOK2.out]; rfl)).symm)
      have hk_a_0_2 := K_a_2.out.cell 0 _ rfl
      have hk_a_1_2 := K_a_2.out.cell 1 _ rfl
      have hk_b_0_2 := K_b_2.out.cell 0 _ rfl
      have hk_b_1_2 := K_b_2.out.cell 1 _ rfl
      have hk_res_0_2 := K_res_2.out.cell 0 _ rfl
      have hk_res_0_2f := K_res_2.out.froz 0 _ rfl
      have hk_res_1_2 := K_res_2.out.cell 1 _ rfl
      have hk_res_1_2f := K_res_2.out.froz 1 _ rfl
      have hk_res_2_2 := K_res_2.out.cell 2 _ rfl
      have hk_res_2_2f := K_res_2.out.froz 2 _ rfl
      go_wp2_with fail
      refine (l04Low_let (s != t) A n c (toN xs) C p q (toN us) z bv Hz.out Hbv.out _ (HAn.out.below HB_2.out (Nat.le_refl _)) (HCn.out.below HB_2.out (Nat.le_refl _)) HCx.out.1 HCy.out.1 hlx hly RS RN RD HLS.out HLN.out HLD.out).mono ?_
      rintro e w9 ⟨v9n, v9d, rfl, hon, hod, apn, apd, hb⟩
      obtain ⟨A9n, c9n, rfl⟩ := hon.shape
      have HO9n := Lib.hid hon
      obtain ⟨A9d, c9d, rfl⟩ := hod.shape
      have HO9d := Lib.hid hod
      have AP_O9n_O9d := Lib.hid apn
      have AP_O9d_O9n := Lib.hid apd
      clear hon hod apn apd
      have K_a_3 := Lib.hid (K_a_2.out.after hb)
      have K_b_3 := Lib.hid (K_b_2.out.after hb)
      have K_res_3 := Lib.hid (K_res_2.out.after hb)
      have HB_3 := Lib.hid (HB_2.out.trans (hb.mono HB_2.out.size))
      clear hb
      clear hk_a_0_2
      clear hk_a_1_2
      clear hk_b_0_2
      clear hk_b_1_2
      clear hk_res_0_2
      clear hk_res_0_2f
      clear hk_res_1_2
      clear hk_res_1_2f
      clear hk_res_2_2
      clear hk_res_2_2f
      have hk_res_0_3 := K_res_3.out.cell 0 _ rfl
      have hk_res_0_3f := K_res_3.out.froz 0 _ rfl
      have hk_res_1_3 := K_res_3.out.cell 1 _ rfl
      have hk_res_1_3f := K_res_3.out.froz 1 _ rfl
      have hk_res_2_3 := K_res_3.out.cell 2 _ rfl
      have hk_res_2_3f := K_res_3.out.froz 2 _ rfl
      go_wp2
      have hr0 := K_res_3.out.cell 0 _ rfl
      have hr1 := K_res_3.out.cell 1 _ rfl
      have hr2 := K_res_3.out.cell 2 _ rfl
      exact bodyPost_ret (v := .agg #[.bool RS, .slice A9n (nats RN).length c9n, .slice A9d (nats RD).length c9d]) (by simp [results, Try.results21, go_sem, hr0, hr1, hr2]) rfl (ownRR_close HB_3.out HO9n.out HO9d.out K_res_2.out.lt K_res_2.out.lt (by omega) AP_O9n_O9d.out AP_O9d_O9n.out)
    · rw [Bool.not_eq_true] at hok2
      rw [hok2]
      obtain rfl : RS = false := by rw [← HRS.out]; exact rtS_no (by rw [hok2, Bool.and_false])
      obtain rfl : RN = [] := by rw [← HRN.out]; exact rtN_no (by rw [hok2, Bool.and_false])
      obtain rfl : RD = [] := by rw [← HRD.out]; exact rtD_no (by rw [hok2, Bool.and_false])
      have hk_res_0_2 := K_res_2.out.cell 0 _ rfl
      have hk_res_0_2f := K_res_2.out.froz 0 _ rfl
      have hk_res_1_2 := K_res_2.out.cell 1 _ rfl
      have hk_res_1_2f := K_res_2.out.froz 1 _ rfl
      have hk_res_2_2 := K_res_2.out.cell 2 _ rfl
      have hk_res_2_2f := K_res_2.out.froz 2 _ rfl
      go_wp2
      have hr0 := K_res_2.out.cell 0 _ rfl
      have hr1 := K_res_2.out.cell 1 _ rfl
      have hr2 := K_res_2.out.cell 2 _ rfl
      refine bodyPost_ret (v := .agg #[.bool false, .slice none 0 0, .slice none 0 0]) (by simp [results, Try.results21, go_sem, hr0, hr1, hr2]) rfl ?_
      exact ownRR_close HB_2.out (OwnV.nil _ (w.heap.size + 1 + 1 + 1) _) (OwnV.nil _ (w.heap.size + 1 + 1 + 1) _) (Nat.lt_succ_self _) (Nat.lt_succ_self _) (by omega) (.inl rfl) (.inl rfl)
  · rw [Bool.not_eq_true] at hok
    rw [hok]
    obtain rfl : RS = false := by rw [← HRS.out]; exact rtS_no (by rw [hok, Bool.false_and])
    obtain rfl : RN = [] := by rw [← HRN.out]; exact rtN_no (by rw [hok, Bool.false_and])
    obtain rfl : RD = [] := by rw [← HRD.out]; exact rtD_no (by rw [hok, Bool.false_and])
    have hk_res_0_1 := K_res_1.out.cell 0 _ rfl
    have hk_res_0_1f := K_res_1.out.froz 0 _ rfl
    have hk_res_1_1 := K_res_1.out.cell 1 _ rfl
    have hk_res_1_1f := K_res_1.out.froz 1 _ rfl
    have hk_res_2_1 := K_res_1.out.cell 2 _ rfl
    have hk_res_2_1f := K_res_1.out.froz 2 _ rfl
    go_wp2
    have hr0 := K_res_1.out.cell 0 _ rfl
    have hr1 := K_res_1.out.cell 1 _ rfl
    have hr2 := K_res_1.out.cell 2 _ rfl
    refine bodyPost_ret (v := .agg #[.bool false, .slice none 0 0, .slice none 0 0]) (by simp [results, Try.results21, go_sem, hr0, hr1, hr2]) rfl ?_
    exact ownRR_close HB_1.out (OwnV.nil _ (w.heap.size + 1 + 1 + 1) _) (OwnV.nil _ (w.heap.size + 1 + 1 + 1) _) (Nat.lt_succ_self _) (Nat.lt_succ_self _) (by omega) (.inl rfl) (.inl rfl)
set_option maxRecDepth 100000 in
set_option maxHeartbeats 4000000 in
theorem ratOf_spec (x y : Int) (w : World) (hx : -9223372036854775808 ≤ x ∧ x ≤ 9223372036854775807) (hy : -9223372036854775808 ≤ y ∧ y ≤ 9223372036854775807) :
    Calls Try.prog 28 #[.int .i64 x, .int .i64 y] w (OwnRR 3 (rtS (okB (sgZ x) ((magZ x).map fun x : Nat => (x : Int)) && okB (sgZ y) ((magZ y).map fun x : Nat => (x : Int))) (signed (sgZ x != sgZ y) (val (toN ((magZ x).map fun x : Nat => (x : Int))))) (val (toN ((magZ y).map fun x : Nat => (x : Int))))) (nats (rtN (okB (sgZ x) ((magZ x).map fun x : Nat => (x : Int)) && okB (sgZ y) ((magZ y).map fun x : Nat => (x : Int))) (signed (sgZ x != sgZ y) (val (toN ((magZ x).map fun x : Nat => (x : Int))))) (val (toN ((magZ y).map fun x : Nat => (x : Int)))))) (nats (rtD (okB (sgZ x) ((magZ x).map fun x : Nat => (x : Int)) && okB (sgZ y) ((magZ y).map fun x : Nat => (x : Int))) (signed (sgZ x != sgZ y) (val (toN ((magZ x).map fun x : Nat => (x : Int))))) (val (toN ((magZ y).map fun x : Nat => (x : Int)))))) w) := by
  obtain ⟨RS, hRS⟩ : ∃ y9, rtS (okB (sgZ x) ((magZ x).map fun x : Nat => (x : Int)) && okB (sgZ y) ((magZ y).map fun x : Nat => (x : Int))) (signed (sgZ x != sgZ y) (val (toN ((magZ x).map fun x : Nat => (x : Int))))) (val (toN ((magZ y).map fun x : Nat => (x : Int)))) = y9 := ⟨_, rfl⟩
  obtain ⟨RN, hRN⟩ : ∃ y9, rtN (okB (sgZ x) ((magZ x).map fun x : Nat => (x : Int)) && okB (sgZ y) ((magZ y).map fun x : Nat => (x : Int))) (signed (sgZ x != sgZ y) (val (toN ((magZ x).map fun x : Nat => (x : Int))))) (val (toN ((magZ y).map fun x : Nat => (x : Int)))) = y9 := ⟨_, rfl⟩
  obtain ⟨RD, hRD⟩ : ∃ y9, rtD (okB (sgZ x) ((magZ x).map fun x : Nat => (x : Int)) && okB (sgZ y) ((magZ y).map fun x : Nat => (x : Int))) (signed (sgZ x != sgZ y) (val (toN ((magZ x).map fun x : Nat => (x : Int))))) (val (toN ((magZ y).map fun x : Nat => (x : Int)))) = y9 := ⟨_, rfl⟩
  rw [hRS, hRN, hRD]
  have HRS := Lib.hid hRS
  have HRN := Lib.hid hRN
  have HRD := Lib.hid hRD
  clear hRS hRN hRD
  have Hx := Lib.hid hx
  have Hy := Lib.hid hy
  clear hx hy
  obtain ⟨gx, hgx⟩ : ∃ y9, sgZ x = y9 := ⟨_, rfl⟩
  obtain ⟨gy, hgy⟩ : ∃ y9, sgZ y = y9 := ⟨_, rfl⟩
  obtain ⟨mx, hmx⟩ : ∃ y9, magZ x = y9 := ⟨_, rfl⟩
  obtain ⟨my, hmy⟩ : ∃ y9, magZ y = y9 := ⟨_, rfl⟩
  rw [hgx, hgy, hmx, hmy] at HRS HRN HRD
  have Hgx := Lib.hid hgx
  have Hgy := Lib.hid hgy
  have Hmx := Lib.hid hmx
  have Hmy := Lib.hid hmy
  clear hgx hgy hmx hmy
  go_enter Try.func28, Try.ntmps28
  have HB_0 := Lib.hid ((Below.refl w.heap.size w).alloc (Nat.le_refl _) (.cells #[.bool false, .slice none 0 0, .slice none 0 0] 31))
  have K_res_0 := Lib.hid (HeldL.new_at w (w.heap.size) [.bool false, .slice none 0 0, .slice none 0 0] 31 (by first | rfl | simp))
  go_wp2_with fail
  have HCx := Lib.hid (bigIntOf_spec x (w.alloc (.cells #[.bool false, .slice none 0 0, .slice none 0 0] 31)) Hx.out)
  rw [Hgx.out, Hmx.out] at HCx
  refine (HCx.out).mono ?_
  rintro e wx ⟨vx, rfl, ho, hb⟩
  obtain ⟨Ax, cx, rfl⟩ := ho.shape
  have HOx := Lib.hid ho
  clear ho
  have K_res_1 := Lib.hid (K_res_0.out.after hb)
  have HB_1 := Lib.hid (HB_0.out.trans (hb.mono HB_0.out.size))
  clear hb
  go_wp2_with fail
  have HCy := Lib.hid (bigIntOf_spec y wx Hy.out)
  rw [Hgy.out, Hmy.out] at HCy
  refine (HCy.out).mono ?_
  rintro e wy ⟨vy, rfl, ho, hb⟩
  obtain ⟨Ay, cy, rfl⟩ := ho.shape
  have HOy := Lib.hid ho
  have AP_Ox_Oy := Lib.hid (OwnV.apart HOx.out ho (Nat.le_refl _))
  have AP_Oy_Ox := Lib.hid (OwnV.apart' ho HOx.out (Nat.le_refl _))
  clear ho
  have K_res_2 := Lib.hid (K_res_1.out.after hb)
  have H_Ox_2 := Lib.hid (OwnV.below (w := wx) HOx.out hb)
  have HB_2 := Lib.hid (HB_1.out.trans (hb.mono HB_1.out.size))
  clear hb
  go_wp2_with fail
  have HCM := Lib.hid (ratMake_spec gx Ax (nats mx).length cx (mx.map fun x : Nat => (x : Int)) gy Ay (nats my).length cy (my.map fun x : Nat => (x : Int)) _ H_Ox_2.out.arg HOy.out.arg)
  rw [HRS.out, HRN.out, HRD.out] at HCM
  refine (HCM.out).mono ?_
  rintro e w9 ⟨v9n, v9d, rfl, hon, hod, apn, apd, hb⟩
  obtain ⟨A9n, c9n, rfl⟩ := hon.shape
  have HO9n := Lib.hid hon
  have AP_Ox_O9n := Lib.hid (OwnV.apart H_Ox_2.out hon (Nat.le_refl _))
  have AP_O9n_Ox := Lib.hid (OwnV.apart' hon H_Ox_2.out (Nat.le_refl _))
  have AP_Oy_O9n := Lib.hid (OwnV.apart HOy.out hon (Nat.le_refl _))
  have AP_O9n_Oy := Lib.hid (OwnV.apart' hon HOy.out (Nat.le_refl _))
  obtain ⟨A9d, c9d, rfl⟩ := hod.shape
  have HO9d := Lib.hid hod
  have AP_Ox_O9d := Lib.hid (OwnV.apart H_Ox_2.out hod (Nat.le_refl _))
  have AP_O9d_Ox := Lib.hid (OwnV.apart' hod H_Ox_2.out (Nat.le_refl _))
  have AP_Oy_O9d := Lib.hid (OwnV.apart HOy.out hod (Nat.le_refl _))
  have AP_O9d_Oy := Lib.hid (OwnV.apart' hod HOy.out (Nat.le_refl _))
  have AP_O9n_O9d := Lib.hid apn
  have AP_O9d_O9n := Lib.hid apd
  clear hon hod apn apd
  have K_res_3 := Lib.hid (K_res_2.out.after hb)
  have H_Ox_3 := Lib.hid (OwnV.below (w := wy) H_Ox_2.out hb)
  have H_Oy_3 := Lib.hid (OwnV.below (w := wy) HOy.out hb)
  have HB_3 := Lib.hid (HB_2.out.trans (hb.mono HB_2.out.size))
  clear hb
  have hk_res_0_3 := K_res_3.out.cell 0 _ rfl
  have hk_res_0_3f := K_res_3.out.froz 0 _ rfl
  have hk_res_1_3 := K_res_3.out.cell 1 _ rfl
  have hk_res_1_3f := K_res_3.out.froz 1 _ rfl
  have hk_res_2_3 := K_res_3.out.cell 2 _ rfl
  have hk_res_2_3f := K_res_3.out.froz 2 _ rfl
  go_wp2
  have hr0 := K_res_3.out.cell 0 _ rfl
  have hr1 := K_res_3.out.cell 1 _ rfl
  have hr2 := K_res_3.out.cell 2 _ rfl
  exact bodyPost_ret (v := .agg #[.bool RS, .slice A9n (nats RN).length c9n, .slice A9d (nats RD).length c9d]) (by simp [results, Try.results28, go_sem, hr0, hr1, hr2]) rfl (ownRR_close HB_3.out HO9n.out HO9d.out K_res_2.out.lt K_res_2.out.lt (by omega) AP_O9n_O9d.out AP_O9d_O9n.out)
set_option maxRecDepth 100000 in
set_option maxHeartbeats 4000000 in
theorem ratFromInt_spec (x : Int) (w : World) (hx : -9223372036854775808 ≤ x ∧ x ≤ 9223372036854775807) :
    Calls Try.prog 30 #[.int .i64 x] w (OwnRR 3 (sgZ x) (nats (magZ x)) (nats ([1])) w) := by
  have Hx := Lib.hid hx
  clear hx
  obtain ⟨gx, hgx⟩ : ∃ y9, sgZ x = y9 := ⟨_, rfl⟩
  obtain ⟨mx, hmx⟩ : ∃ y9, magZ x = y9 := ⟨_, rfl⟩
  rw [hgx, hmx]
  have Hgx := Lib.hid hgx
  have Hmx := Lib.hid hmx
  clear hgx hmx
  go_enter Try.func30, Try.ntmps30
  have HB_0 := Lib.hid ((Below.refl w.heap.size w).alloc (Nat.le_refl _) (.cells #[.bool false, .slice none 0 0, .slice none 0 0] 31))
  have K_res_0 := Lib.hid (HeldL.new_at w (w.heap.size) [.bool false, .slice none 0 0, .slice none 0 0] 31 (by first | rfl | simp))
  go_wp2_with fail
  have HCx := Lib.hid (bigIntOf_spec x (w.alloc (.cells #[.bool false, .slice none 0 0, .slice none 0 0] 31)) Hx.out)
  rw [Hgx.out, Hmx.out] at HCx
  refine (HCx.out).mono ?_
  rintro e wx ⟨vx, rfl, ho, hb⟩
  obtain ⟨Ax, cx, rfl⟩ := ho.shape
  have HOx := Lib.hid ho
  clear ho
  have K_res_1 := Lib.hid (K_res_0.out.after hb)
  have HB_1 := Lib.hid (HB_0.out.trans (hb.mono HB_0.out.size))
  clear hb
  have hoa : OwnV (wx.alloc (.cells #[.int .i64 1] 3)) wx.heap.size 3 (.slice (some ⟨wx.heap.size, 0, none⟩) 1 1) (nats [1]) := OwnV.of_whole (ys := nats [1]) (whole_of (Nat.le_refl _) (by show (wx.alloc (.cells #[.int .i64 1] 3)).heap[wx.heap.size]? = some (.cells #[.int .i64 1] 3); unfold World.alloc; simp) (by unfold maxLen; decide))
  have HOa := Lib.hid hoa
  have AP_Ox_Oa := Lib.hid (OwnV.apart HOx.out hoa (Nat.le_refl _))
  have AP_Oa_Ox := Lib.hid (OwnV.apart' hoa HOx.out (Nat.le_refl _))
  clear hoa
  have K_res_2 := Lib.hid (K_res_1.out.alloc (.cells #[.int .i64 1] 3))
  have hne_res_one : w.heap.size ≠ wx.heap.size := by have := K_res_1.out.lt; omega
  have hne_one_res : wx.heap.size ≠ w.heap.size := by have := K_res_1.out.lt; omega
  have K_one_2 := Lib.hid (HeldL.new wx [.int .i64 1] 3)
  have H_Ox_2 := Lib.hid (OwnV.below HOx.out ((Below.refl _ wx).alloc (Nat.le_refl _) (.cells #[.int .i64 1] 3)))
  have HB_2 := Lib.hid (HB_1.out.alloc HB_1.out.size (.cells #[.int .i64 1] 3))
  have hk_res_0_2 := K_res_2.out.cell 0 _ rfl
  have hk_res_0_2f := K_res_2.out.froz 0 _ rfl
  have hk_res_1_2 := K_res_2.out.cell 1 _ rfl
  have hk_res_1_2f := K_res_2.out.froz 1 _ rfl
  have hk_res_2_2 := K_res_2.out.cell 2 _ rfl
  have hk_res_2_2f := K_res_2.out.froz 2 _ rfl
  go_wp2
  have hr0 := K_res_2.out.cell 0 _ rfl
  have hr1 := K_res_2.out.cell 1 _ rfl
  have hr2 := K_res_2.out.cell 2 _ rfl
  exact bodyPost_ret (v := .agg #[.bool gx, .slice Ax (nats mx).length cx, .slice (some ⟨wx.heap.size, 0, none⟩) 1 1]) (by simp [results, Try.results30, go_sem, hr0, hr1, hr2]) rfl (ownRR_close HB_2.out H_Ox_2.out HOa.out K_res_0.out.lt K_res_1.out.lt (by omega) AP_Ox_Oa.out AP_Oa_Ox.out)
end Go.Proofs.Ytbblfledkmcfmaa
