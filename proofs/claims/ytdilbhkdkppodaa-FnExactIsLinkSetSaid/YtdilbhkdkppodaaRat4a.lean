/- Fractions: how the program makes them, and raises a numerator. Conditions: none. -/
import Derived.Test.YtdilbhkdkppodaaProg
import Derived.Test.YtdilbhkdkppodaaRat2
import Derived.Test.YtdilbhkdkppodaaBigOf
import Derived.Test.YtdilbhkdkppodaaBigMul
import Derived.Test.YtdilbhkdkppodaaBigSum
import Derived.Test.YtdilbhkdkppodaaBigSub
import Derived.Test.YtdilbhkdkppodaaBigCmp
namespace Go.Proofs.Ytdilbhkdkppodaa
open Go.RowKit Nt
set_option linter.unusedVariables false

/-- The result g, M of the big integers is the number z. -/
def IsZ (g : Bool) (M : List Nat) (z : Int) : Prop := sgZ z = g ∧ magZ z = M ∧ z.natAbs < 1000000000 ^ 60
theorem IsZ.back {g : Bool} {M : List Nat} {z : Int} (h : IsZ g M z) : signed g (val M) = z := by obtain ⟨rfl, rfl, h3⟩ := h; exact back_z h3
theorem IsZ.can {g : Bool} {M : List Nat} {z : Int} (h : IsZ g M z) : Canon M := by obtain ⟨rfl, rfl, h3⟩ := h; exact magZ_can z
theorem IsZ.len {g : Bool} {M : List Nat} {z : Int} (h : IsZ g M z) : M.length ≤ 60 := by obtain ⟨rfl, rfl, h3⟩ := h; exact capd_len _
theorem IsZ.ok {g : Bool} {M : List Nat} {z : Int} (h : IsZ g M z) : okB g (M.map fun x : Nat => (x : Int)) = true := by
  unfold okB
  rw [okI_of_nats h.can h.len]
  obtain ⟨rfl, rfl, h3⟩ := h
  rw [sgZ_small h3, magZ_small h3]
  by_cases hz : z < 0
  · have : 0 < (dig z.natAbs).length := dig_pos_len (by omega)
    simp [hz, this]
  · simp [hz]
theorem IsZ.z {g : Bool} {M : List Nat} {z : Int} (h : IsZ g M z) : zOf g (M.map fun x : Nat => (x : Int)) = z := by rw [zOf, toN_nats]; exact h.back
theorem IsZ.of {z : Int} (h : z.natAbs < 1000000000 ^ 60) : IsZ (sgZ z) (magZ z) z := ⟨rfl, rfl, h⟩
theorem zOf_false (vs : List Int) : zOf false vs = (val (toN vs) : Int) := by simp [zOf, signed]
theorem okB_false (vs : List Int) : okB false vs = okI vs := by simp [okB]
theorem res_yes {ok : Bool} {z : Int} (h : ok = true) : resS ok z = sgZ z ∧ resM ok z = magZ z := by subst h; simp [resS, resM]
set_option maxRecDepth 100000 in
set_option maxHeartbeats 4000000 in
theorem ratMake_impl (s : Bool) (A : Option Addr) (n c : Nat) (xs : List Int) (t : Bool) (C : Option Addr) (p q : Nat) (us : List Int) (w : World) (hA : Arg w A n c (ints xs)) (hC : Arg w C p q (ints us)) :
    Calls Try.prog 74 #[.agg #[.bool s, .slice A n c], .agg #[.bool t, .slice C p q]] w (OwnRR 3 (rtS (okB s xs && okB t us) (signed (s != t) (val (toN xs))) (val (toN us))) (nats (rtN (okB s xs && okB t us) (signed (s != t) (val (toN xs))) (val (toN us)))) (nats (rtD (okB s xs && okB t us) (signed (s != t) (val (toN xs))) (val (toN us)))) w) := by
  obtain ⟨z, hz⟩ : ∃ y9, signed (s != t) (val (toN xs)) = y9 := ⟨_, rfl⟩
  obtain ⟨bv, hbv⟩ : ∃ y9, val (toN us) = y9 := ⟨_, rfl⟩
  rw [hz, hbv]
  have Hz := Lib.hid hz
  have Hbv := Lib.hid hbv
  clear hz hbv
  obtain ⟨RS, hRS⟩ : ∃ y9, rtS (okB s xs && okB t us) z bv = y9 := ⟨_, rfl⟩
  obtain ⟨RN, hRN⟩ : ∃ y9, rtN (okB s xs && okB t us) z bv = y9 := ⟨_, rfl⟩
  obtain ⟨RD, hRD⟩ : ∃ y9, rtD (okB s xs && okB t us) z bv = y9 := ⟨_, rfl⟩
  rw [hRS, hRN, hRD]
  have HRS := Lib.hid hRS
  have HRN := Lib.hid hRN
  have HRD := Lib.hid hRD
  clear hRS hRN hRD
  have HA := Lib.hid hA
  have HC := Lib.hid hC
  clear hA hC
  go_enter Try.func74, Try.ntmps74
  have HB_0 := Lib.hid ((((Below.refl w.heap.size w).alloc (Nat.le_refl _) (.cells #[.bool s, .slice A n c] 31)).alloc (by simp) (.cells #[.bool t, .slice C p q] 31)).alloc (by simp; omega) (.cells #[.bool false, .slice none 0 0, .slice none 0 0] 33))
  have K_a_0 := Lib.hid (((HeldL.new_at w (w.heap.size) [.bool s, .slice A n c] 31 (by first | rfl | simp)).alloc (.cells #[.bool t, .slice C p q] 31)).alloc (.cells #[.bool false, .slice none 0 0, .slice none 0 0] 33))
  have K_b_0 := Lib.hid ((HeldL.new_at (w.alloc (.cells #[.bool s, .slice A n c] 31)) (w.heap.size + 1) [.bool t, .slice C p q] 31 (by first | rfl | simp)).alloc (.cells #[.bool false, .slice none 0 0, .slice none 0 0] 33))
  have K_res_0 := Lib.hid (HeldL.new_at ((w.alloc (.cells #[.bool s, .slice A n c] 31)).alloc (.cells #[.bool t, .slice C p q] 31)) (w.heap.size + 1 + 1) [.bool false, .slice none 0 0, .slice none 0 0] 33 (by first | rfl | simp))
  have hne_a_b : w.heap.size ≠ w.heap.size + 1 := by omega
  have hne_a_res : w.heap.size ≠ w.heap.size + 1 + 1 := by omega
  have hne_b_a : w.heap.size + 1 ≠ w.heap.size := by omega
  have hne_b_res : w.heap.size + 1 ≠ w.heap.size + 1 + 1 := by omega
  have hne_res_a : w.heap.size + 1 + 1 ≠ w.heap.size := by omega
  have hne_res_b : w.heap.size + 1 + 1 ≠ w.heap.size + 1 := by omega
  go_wp2_with fail
  refine (bigIntOk_impl s A n c xs _ (HA.out.below HB_0.out (Nat.le_refl _)).1 HA.out.max).mono ?_
  rintro e w1 ⟨rfl, hb⟩
  have K_a_1 := Lib.hid (K_a_0.out.after hb)
  have K_b_1 := Lib.hid (K_b_0.out.after hb)
  have K_res_1 := Lib.hid (K_res_0.out.after hb)
  have HB_1 := Lib.hid (HB_0.out.trans (hb.mono HB_0.out.size))
  clear hb
  by_cases hok : okB s xs = true
  · rw [hok]
    have hk_b_0_1 := K_b_1.out.cell 0 _ rfl
    have hk_b_1_1 := K_b_1.out.cell 1 _ rfl
    go_wp2_with fail
    refine (bigIntOk_impl t C p q us _ (HC.out.below HB_1.out (Nat.le_refl _)).1 HC.out.max).mono ?_
    rintro e w2 ⟨rfl, hb⟩
    have K_a_2 := Lib.hid (K_a_1.out.after hb)
    have K_b_2 := Lib.hid (K_b_1.out.after hb)
    have K_res_2 := Lib.hid (K_res_1.out.after hb)
    have HB_2 := Lib.hid (HB_1.out.trans (hb.mono HB_1.out.size))
    clear hb
    clear hk_b_0_1
    clear hk_b_1_1
    by_cases hok2 : okB t us = true
    · rw [hok2]
      obtain ⟨hex, hcx, hlx⟩ := okI_nats (okB_ok hok)
      obtain ⟨hey, hcy, hly⟩ := okI_nats (okB_ok hok2)
      rw [toN_len, HA.out.ilen] at hlx
      rw [toN_len, HC.out.ilen] at hly
      have HAn := Lib.hid (hex ▸ HA.out)
      have HCn := Lib.hid (hey ▸ HC.out)
      have HCx := Lib.hid hcx
      have HCy := Lib.hid hcy
      have HOK := Lib.hid hok
      have HOK2 := Lib.hid hok2
      clear hex hey hcx hcy hok hok2
      have HLS := Lib.hid (show loS z bv = RS by rw [← HRS.out]; exact (rtS_yes (by rw [HOK.out, HOK2.out]; rfl)).symm)
      have HLN := Lib.hid (show loN z bv = RN by rw [← HRN.out]; exact (rtN_yes (by rw [HOK.out, HOK2.out]; rfl)).symm)
      have HLD := Lib.hid (show loD z bv = RD by rw [← HRD.out]; exact (rtD_yes (by rw [HOK.out, HOK2.out]; rfl)).symm)
      have HZL := Lib.hid (show signed ((s != t) && decide (0 < n)) (val (toN xs)) = z by rw [← HAn.out.nlen, signed_len]; exact Hz.out)
      have hk_a_0_2 := K_a_2.out.cell 0 _ rfl
      have hk_a_1_2 := K_a_2.out.cell 1 _ rfl
      have hk_b_0_2 := K_b_2.out.cell 0 _ rfl
      have hk_b_1_2 := K_b_2.out.cell 1 _ rfl
      have hk_res_0_2 := K_res_2.out.cell 0 _ rfl
      have hk_res_0_2f := K_res_2.out.froz 0 _ rfl
      have hk_res_1_2 := K_res_2.out.cell 1 _ rfl
      have hk_res_1_2f := K_res_2.out.froz 1 _ rfl
      have hk_res_2_2 := K_res_2.out.cell 2 _ rfl
      have hk_res_2_2f := K_res_2.out.froz 2 _ rfl
      go_wp2
      go_region_held3 (fun w' => w'.cell? ⟨w.heap.size, 0, none⟩ = some (.bool s) ∧ w'.cell? ⟨w.heap.size, 1, none⟩ = some (.slice A n c) ∧ w'.cell? ⟨w.heap.size + 1, 0, none⟩ = some (.bool t) ∧ w'.cell? ⟨w.heap.size + 1, 1, none⟩ = some (.slice C p q)) (go_keep)
        (first
          | (go_at_call 92
             refine (bigIntWith_any (s != t) A n c _ ?_).mono ?_
             omega
             rintro e w8 ⟨rfl, hb⟩
             have K_a_3 := Lib.hid (K_a_2.out.drew.after hb)
             have K_b_3 := Lib.hid (K_b_2.out.drew.after hb)
             have K_res_3 := Lib.hid (K_res_2.out.drew.after hb)
             have HB_3 := Lib.hid (HB_2.out.drew.trans (hb.mono HB_2.out.drew.size))
             clear hb
             have hk_a_0_3 := K_a_3.out.cell 0 _ rfl
             have hk_a_1_3 := K_a_3.out.cell 1 _ rfl
             have hk_b_0_3 := K_b_3.out.cell 0 _ rfl
             have hk_b_1_3 := K_b_3.out.cell 1 _ rfl)
          | (go_at_call 91
             refine (reduced_let ((s != t) && decide (0 < n)) A n c (toN xs) C p q (toN us) z bv HZL.out Hbv.out _ (HAn.out.below HB_3.out (Nat.le_refl _)) (HCn.out.below HB_3.out (Nat.le_refl _)) HCx.out HCy.out hlx hly RS RN RD HLS.out HLN.out HLD.out).mono ?_
             rintro e w9 ⟨v9n, v9d, rfl, hon, hod, apn, apd, hb⟩
             obtain ⟨A9n, c9n, rfl⟩ := hon.shape
             obtain ⟨A9d, c9d, rfl⟩ := hod.shape
             have HO9n := Lib.hid hon
             have HO9d := Lib.hid hod
             have AP_O9n_O9d := Lib.hid apn
             have AP_O9d_O9n := Lib.hid apd
             clear hon hod apn apd
             have K_a_4 := Lib.hid (K_a_3.out.after hb)
             have K_b_4 := Lib.hid (K_b_3.out.after hb)
             have K_res_4 := Lib.hid (K_res_3.out.after hb)
             have HB_4 := Lib.hid (HB_3.out.trans (hb.mono HB_3.out.size))
             clear hb
             have hk_a_0_4 := K_a_4.out.cell 0 _ rfl
             have hk_a_1_4 := K_a_4.out.cell 1 _ rfl
             have hk_b_0_4 := K_b_4.out.cell 0 _ rfl
             have hk_b_1_4 := K_b_4.out.cell 1 _ rfl
             have hk_res_0_4 := K_res_4.out.cell 0 _ rfl
             have hk_res_0_4f := K_res_4.out.froz 0 _ rfl
             have hk_res_1_4 := K_res_4.out.cell 1 _ rfl
             have hk_res_1_4f := K_res_4.out.froz 1 _ rfl
             have hk_res_2_4 := K_res_4.out.cell 2 _ rfl
             have hk_res_2_4f := K_res_4.out.froz 2 _ rfl))
      go_wp2
      have hr0 := K_res_4.out.cell 0 _ rfl
      have hr1 := K_res_4.out.cell 1 _ rfl
      have hr2 := K_res_4.out.cell 2 _ rfl
      exact bodyPost_ret (v := .agg #[.bool RS, .slice A9n (nats RN).length c9n, .slice A9d (nats RD).length c9d]) (by simp [results, Try.results74, go_sem, hr0, hr1, hr2]) rfl (ownRR_close HB_4.out HO9n.out HO9d.out K_res_3.out.lt K_res_3.out.lt (by omega) AP_O9n_O9d.out AP_O9d_O9n.out)
    · rw [Bool.not_eq_true] at hok2
      rw [hok2]
      obtain rfl : RS = false := by rw [← HRS.out]; exact rtS_no (by rw [hok2, Bool.and_false])
      obtain rfl : RN = [] := by rw [← HRN.out]; exact rtN_no (by rw [hok2, Bool.and_false])
      obtain rfl : RD = [] := by rw [← HRD.out]; exact rtD_no (by rw [hok2, Bool.and_false])
      have hk_res_0_2 := K_res_2.out.cell 0 _ rfl
      have hk_res_0_2f := K_res_2.out.froz 0 _ rfl
      have hk_res_1_2 := K_res_2.out.cell 1 _ rfl
      have hk_res_1_2f := K_res_2.out.froz 1 _ rfl
      have hk_res_2_2 := K_res_2.out.cell 2 _ rfl
      have hk_res_2_2f := K_res_2.out.froz 2 _ rfl
      go_wp2
      have hr0 := K_res_2.out.cell 0 _ rfl
      have hr1 := K_res_2.out.cell 1 _ rfl
      have hr2 := K_res_2.out.cell 2 _ rfl
      refine bodyPost_ret (v := .agg #[.bool false, .slice none 0 0, .slice none 0 0]) (by simp [results, Try.results74, go_sem, hr0, hr1, hr2]) rfl ?_
      exact ownRR_close HB_2.out (OwnV.nil _ (w.heap.size + 1 + 1 + 1) _) (OwnV.nil _ (w.heap.size + 1 + 1 + 1) _) (Nat.lt_succ_self _) (Nat.lt_succ_self _) (by omega) (.inl rfl) (.inl rfl)
  · rw [Bool.not_eq_true] at hok
    rw [hok]
    obtain rfl : RS = false := by rw [← HRS.out]; exact rtS_no (by rw [hok, Bool.false_and])
    obtain rfl : RN = [] := by rw [← HRN.out]; exact rtN_no (by rw [hok, Bool.false_and])
    obtain rfl : RD = [] := by rw [← HRD.out]; exact rtD_no (by rw [hok, Bool.false_and])
    have hk_res_0_1 := K_res_1.out.cell 0 _ rfl
    have hk_res_0_1f := K_res_1.out.froz 0 _ rfl
    have hk_res_1_1 := K_res_1.out.cell 1 _ rfl
    have hk_res_1_1f := K_res_1.out.froz 1 _ rfl
    have hk_res_2_1 := K_res_1.out.cell 2 _ rfl
    have hk_res_2_1f := K_res_1.out.froz 2 _ rfl
    go_wp2
    have hr0 := K_res_1.out.cell 0 _ rfl
    have hr1 := K_res_1.out.cell 1 _ rfl
    have hr2 := K_res_1.out.cell 2 _ rfl
    refine bodyPost_ret (v := .agg #[.bool false, .slice none 0 0, .slice none 0 0]) (by simp [results, Try.results74, go_sem, hr0, hr1, hr2]) rfl ?_
    exact ownRR_close HB_1.out (OwnV.nil _ (w.heap.size + 1 + 1 + 1) _) (OwnV.nil _ (w.heap.size + 1 + 1 + 1) _) (Nat.lt_succ_self _) (Nat.lt_succ_self _) (by omega) (.inl rfl) (.inl rfl)
set_option maxRecDepth 100000 in
set_option maxHeartbeats 4000000 in
theorem ratOf_impl (x y : Int) (w : World) (hx : -9223372036854775808 ≤ x ∧ x ≤ 9223372036854775807) (hy : -9223372036854775808 ≤ y ∧ y ≤ 9223372036854775807) :
    Calls Try.prog 56 #[.int .i64 x, .int .i64 y] w (OwnRR 3 (rtS (okB (sgZ x) ((magZ x).map fun x : Nat => (x : Int)) && okB (sgZ y) ((magZ y).map fun x : Nat => (x : Int))) (signed (sgZ x != sgZ y) (val (toN ((magZ x).map fun x : Nat => (x : Int))))) (val (toN ((magZ y).map fun x : Nat => (x : Int))))) (nats (rtN (okB (sgZ x) ((magZ x).map fun x : Nat => (x : Int)) && okB (sgZ y) ((magZ y).map fun x : Nat => (x : Int))) (signed (sgZ x != sgZ y) (val (toN ((magZ x).map fun x : Nat => (x : Int))))) (val (toN ((magZ y).map fun x : Nat => (x : Int)))))) (nats (rtD (okB (sgZ x) ((magZ x).map fun x : Nat => (x : Int)) && okB (sgZ y) ((magZ y).map fun x : Nat => (x : Int))) (signed (sgZ x != sgZ y) (val (toN ((magZ x).map fun x : Nat => (x : Int))))) (val (toN ((magZ y).map fun x : Nat => (x : Int)))))) w) := by
  obtain ⟨RS, hRS⟩ : ∃ y9, rtS (okB (sgZ x) ((magZ x).map fun x : Nat => (x : Int)) && okB (sgZ y) ((magZ y).map fun x : Nat => (x : Int))) (signed (sgZ x != sgZ y) (val (toN ((magZ x).map fun x : Nat => (x : Int))))) (val (toN ((magZ y).map fun x : Nat => (x : Int)))) = y9 := ⟨_, rfl⟩
  obtain ⟨RN, hRN⟩ : ∃ y9, rtN (okB (sgZ x) ((magZ x).map fun x : Nat => (x : Int)) && okB (sgZ y) ((magZ y).map fun x : Nat => (x : Int))) (signed (sgZ x != sgZ y) (val (toN ((magZ x).map fun x : Nat => (x : Int))))) (val (toN ((magZ y).map fun x : Nat => (x : Int)))) = y9 := ⟨_, rfl⟩
  obtain ⟨RD, hRD⟩ : ∃ y9, rtD (okB (sgZ x) ((magZ x).map fun x : Nat => (x : Int)) && okB (sgZ y) ((magZ y).map fun x : Nat => (x : Int))) (signed (sgZ x != sgZ y) (val (toN ((magZ x).map fun x : Nat => (x : Int))))) (val (toN ((magZ y).map fun x : Nat => (x : Int)))) = y9 := ⟨_, rfl⟩
  rw [hRS, hRN, hRD]
  have HRS := Lib.hid hRS
  have HRN := Lib.hid hRN
  have HRD := Lib.hid hRD
  clear hRS hRN hRD
  have Hx := Lib.hid hx
  have Hy := Lib.hid hy
  clear hx hy
  obtain ⟨gx, hgx⟩ : ∃ y9, sgZ x = y9 := ⟨_, rfl⟩
  obtain ⟨gy, hgy⟩ : ∃ y9, sgZ y = y9 := ⟨_, rfl⟩
  obtain ⟨mx, hmx⟩ : ∃ y9, magZ x = y9 := ⟨_, rfl⟩
  obtain ⟨my, hmy⟩ : ∃ y9, magZ y = y9 := ⟨_, rfl⟩
  rw [hgx, hgy, hmx, hmy] at HRS HRN HRD
  have Hgx := Lib.hid hgx
  have Hgy := Lib.hid hgy
  have Hmx := Lib.hid hmx
  have Hmy := Lib.hid hmy
  clear hgx hgy hmx hmy
  go_enter Try.func56, Try.ntmps56
  have HB_0 := Lib.hid ((Below.refl w.heap.size w).alloc (Nat.le_refl _) (.cells #[.bool false, .slice none 0 0, .slice none 0 0] 33))
  have K_res_0 := Lib.hid (HeldL.new_at w (w.heap.size) [.bool false, .slice none 0 0, .slice none 0 0] 33 (by first | rfl | simp))
  go_wp2_with fail
  have HCx := Lib.hid (bigIntOf_impl x (w.alloc (.cells #[.bool false, .slice none 0 0, .slice none 0 0] 33)) Hx.out)
  rw [Hgx.out, Hmx.out] at HCx
  refine (HCx.out).mono ?_
  rintro e wx ⟨vx, rfl, ho, hb⟩
  obtain ⟨Ax, cx, rfl⟩ := ho.shape
  have HOx := Lib.hid ho
  clear ho
  have K_res_1 := Lib.hid (K_res_0.out.after hb)
  have HB_1 := Lib.hid (HB_0.out.trans (hb.mono HB_0.out.size))
  clear hb
  go_wp2_with fail
  have HCy := Lib.hid (bigIntOf_impl y wx Hy.out)
  rw [Hgy.out, Hmy.out] at HCy
  refine (HCy.out).mono ?_
  rintro e wy ⟨vy, rfl, ho, hb⟩
  obtain ⟨Ay, cy, rfl⟩ := ho.shape
  have HOy := Lib.hid ho
  have AP_Ox_Oy := Lib.hid (OwnV.apart HOx.out ho (Nat.le_refl _))
  have AP_Oy_Ox := Lib.hid (OwnV.apart' ho HOx.out (Nat.le_refl _))
  clear ho
  have K_res_2 := Lib.hid (K_res_1.out.after hb)
  have H_Ox_2 := Lib.hid (OwnV.below (w := wx) HOx.out hb)
  have HB_2 := Lib.hid (HB_1.out.trans (hb.mono HB_1.out.size))
  clear hb
  go_wp2_with fail
  have HCM := Lib.hid (ratMake_impl gx Ax (nats mx).length cx (mx.map fun x : Nat => (x : Int)) gy Ay (nats my).length cy (my.map fun x : Nat => (x : Int)) _ H_Ox_2.out.arg HOy.out.arg)
  rw [HRS.out, HRN.out, HRD.out] at HCM
  refine (HCM.out).mono ?_
  rintro e w9 ⟨v9n, v9d, rfl, hon, hod, apn, apd, hb⟩
  obtain ⟨A9n, c9n, rfl⟩ := hon.shape
  have HO9n := Lib.hid hon
  have AP_Ox_O9n := Lib.hid (OwnV.apart H_Ox_2.out hon (Nat.le_refl _))
  have AP_O9n_Ox := Lib.hid (OwnV.apart' hon H_Ox_2.out (Nat.le_refl _))
  have AP_Oy_O9n := Lib.hid (OwnV.apart HOy.out hon (Nat.le_refl _))
  have AP_O9n_Oy := Lib.hid (OwnV.apart' hon HOy.out (Nat.le_refl _))
  obtain ⟨A9d, c9d, rfl⟩ := hod.shape
  have HO9d := Lib.hid hod
  have AP_Ox_O9d := Lib.hid (OwnV.apart H_Ox_2.out hod (Nat.le_refl _))
  have AP_O9d_Ox := Lib.hid (OwnV.apart' hod H_Ox_2.out (Nat.le_refl _))
  have AP_Oy_O9d := Lib.hid (OwnV.apart HOy.out hod (Nat.le_refl _))
  have AP_O9d_Oy := Lib.hid (OwnV.apart' hod HOy.out (Nat.le_refl _))
  have AP_O9n_O9d := Lib.hid apn
  have AP_O9d_O9n := Lib.hid apd
  clear hon hod apn apd
  have K_res_3 := Lib.hid (K_res_2.out.after hb)
  have H_Ox_3 := Lib.hid (OwnV.below (w := wy) H_Ox_2.out hb)
  have H_Oy_3 := Lib.hid (OwnV.below (w := wy) HOy.out hb)
  have HB_3 := Lib.hid (HB_2.out.trans (hb.mono HB_2.out.size))
  clear hb
  have hk_res_0_3 := K_res_3.out.cell 0 _ rfl
  have hk_res_0_3f := K_res_3.out.froz 0 _ rfl
  have hk_res_1_3 := K_res_3.out.cell 1 _ rfl
  have hk_res_1_3f := K_res_3.out.froz 1 _ rfl
  have hk_res_2_3 := K_res_3.out.cell 2 _ rfl
  have hk_res_2_3f := K_res_3.out.froz 2 _ rfl
  go_wp2
  have hr0 := K_res_3.out.cell 0 _ rfl
  have hr1 := K_res_3.out.cell 1 _ rfl
  have hr2 := K_res_3.out.cell 2 _ rfl
  exact bodyPost_ret (v := .agg #[.bool RS, .slice A9n (nats RN).length c9n, .slice A9d (nats RD).length c9d]) (by simp [results, Try.results56, go_sem, hr0, hr1, hr2]) rfl (ownRR_close HB_3.out HO9n.out HO9d.out K_res_2.out.lt K_res_2.out.lt (by omega) AP_O9n_O9d.out AP_O9d_O9n.out)
set_option maxRecDepth 100000 in
set_option maxHeartbeats 4000000 in
theorem raisedBy_at (s : Bool) (A : Option Addr) (n c : Nat) (xs : List Int) (B : Option Addr) (m d : Nat) (ys : List Int) (E : Option Addr) (k l : Nat) (vs : List Int) (z : Int) (g : Bool) (M : List Nat) (hz : zOf s xs * (val (toN vs) : Int) = z) (hI : IsZ g M z) (h1 : okB s xs = true) (h2 : okI vs = true) (w : World) (hA : Arg w A n c (ints xs)) (hE : Arg w E k l (ints vs)) :
    Calls Try.prog 126 #[.agg #[.bool s, .slice A n c, .slice B m d], .slice E k l] w (OwnRB 3 g (nats M) w) := by
  have hA_max := hA.max
  have hE_max := hE.max
  have HC := Lib.hid (fun u hA hE => bigIntMul_impl s false A E n c k l xs vs u hA hE hA_max hE_max)
  have hr := res_yes (ok := okB s xs && okB false vs) (z := zOf s xs * zOf false vs) (by rw [h1, okB_false, h2]; rfl)
  rw [hr.1, hr.2, zOf_false, hz, hI.1, hI.2.1] at HC
  clear hr h1 h2 hz hI hA_max hE_max
  have HA := Lib.hid hA
  have HE := Lib.hid hE
  clear hA hE
  go_enter Try.func126, Try.ntmps126
  have HB_0 := Lib.hid (((Below.refl w.heap.size w).alloc (Nat.le_refl _) (.cells #[.bool s, .slice A n c, .slice B m d] 33)).alloc (by simp) (.cells #[.bool false, .slice none 0 0] 31))
  have K_a_0 := Lib.hid ((HeldL.new_at w (w.heap.size) [.bool s, .slice A n c, .slice B m d] 33 (by first | rfl | simp)).alloc (.cells #[.bool false, .slice none 0 0] 31))
  have K_res_0 := Lib.hid (HeldL.new_at (w.alloc (.cells #[.bool s, .slice A n c, .slice B m d] 33)) (w.heap.size + 1) [.bool false, .slice none 0 0] 31 (by first | rfl | simp))
  have hne_a_res : w.heap.size ≠ w.heap.size + 1 := by omega
  have hne_res_a : w.heap.size + 1 ≠ w.heap.size := by omega
  go_wp2_with fail
  refine (HC.out _ (HA.out.below HB_0.out (Nat.le_refl _)).1 (HE.out.below HB_0.out (Nat.le_refl _)).1).mono ?_
  rintro e w9 ⟨v9, rfl, ho, hb⟩
  obtain ⟨A9, c9, rfl⟩ := ho.shape
  have HO9 := Lib.hid ho
  clear ho
  have K_a_1 := Lib.hid (K_a_0.out.after hb)
  have K_res_1 := Lib.hid (K_res_0.out.after hb)
  have HB_1 := Lib.hid (HB_0.out.trans (hb.mono HB_0.out.size))
  clear hb
  have hk_res_0_1 := K_res_1.out.cell 0 _ rfl
  have hk_res_0_1f := K_res_1.out.froz 0 _ rfl
  have hk_res_1_1 := K_res_1.out.cell 1 _ rfl
  have hk_res_1_1f := K_res_1.out.froz 1 _ rfl
  go_wp2
  have hr0 := K_res_1.out.cell 0 _ rfl
  have hr1 := K_res_1.out.cell 1 _ rfl
  exact bodyPost_ret (v := .agg #[.bool g, .slice A9 (nats M).length c9]) (by simp [results, Try.results126, go_sem, hr0, hr1]) rfl (ownRB_close HB_1.out HO9.out K_res_0.out.lt (by omega))
end Go.Proofs.Ytdilbhkdkppodaa
