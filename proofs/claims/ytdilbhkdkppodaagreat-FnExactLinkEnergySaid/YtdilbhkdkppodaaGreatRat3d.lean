/- Fractions: sums, in the model. Conditions: none. -/
import Derived.Test.YtdilbhkdkppodaaGreatProg
import Derived.Test.YtdilbhkdkppodaaGreatRat3done
import Derived.Test.YtdilbhkdkppodaaGreatRat3dtwo
import Derived.Test.YtdilbhkdkppodaaGreatRat3dmix
namespace Go.Proofs.YtdilbhkdkppodaaGreat
open Go.RowKit Nt
set_option linter.unusedVariables false

theorem l04Add_at (s : Bool) (A : Option Addr) (n c : Nat) (ds : List Nat) (B : Option Addr) (m d : Nat) (bs : List Nat) (t : Bool) (C : Option Addr) (p q : Nat) (es : List Nat) (E : Option Addr) (k l : Nat) (gs : List Nat) (z : Int) (bv : Nat) (hz : signed s (val ds) * (val gs : Int) + signed t (val es) * (val bs : Int) = z) (hbv : val bs * val gs = bv) (w : World) (hA : Arg w A n c (nats ds)) (hB : Arg w B m d (nats bs)) (hv : Valid ds bs) (hC : Arg w C p q (nats es)) (hE : Arg w E k l (nats gs)) (hv2 : Valid es gs) :
    Calls Tryz.prog 69 #[.agg #[.bool s, .slice A n c, .slice B m d], .agg #[.bool t, .slice C p q, .slice E k l]] w (OwnRR 3 (loS z bv) (nats (loN z bv)) (nats (loD z bv)) w) := by
  by_cases h1 : isOne bs = true
  · by_cases h2 : isOne gs = true
    · exact l04Add_one s A n c ds B m d bs t C p q es E k l gs z bv hz hbv w hA hB hv hC hE hv2 h1 h2
    · exact l04Add_mix s A n c ds B m d bs t C p q es E k l gs z bv hz hbv w hA hB hv hC hE hv2 h1 (by simpa using h2)
  · exact l04Add_two s A n c ds B m d bs t C p q es E k l gs z bv hz hbv w hA hB hv hC hE hv2 (by simpa using h1)
set_option maxRecDepth 100000 in
set_option maxHeartbeats 4000000 in
theorem ratAdd_spec (s : Bool) (A : Option Addr) (n c : Nat) (xs : List Int) (B : Option Addr) (m d : Nat) (ys : List Int) (t : Bool) (C : Option Addr) (p q : Nat) (us : List Int) (E : Option Addr) (k l : Nat) (vs : List Int) (w : World) (hA : Arg w A n c (ints xs)) (hB : Arg w B m d (ints ys)) (hC : Arg w C p q (ints us)) (hE : Arg w E k l (ints vs)) :
    Calls Tryz.prog 34 #[.agg #[.bool s, .slice A n c, .slice B m d], .agg #[.bool t, .slice C p q, .slice E k l]] w (OwnRR 3 (rtS (okR s xs ys && okR t us vs) (zOf s xs * (val (toN vs) : Int) + zOf t us * (val (toN ys) : Int)) (val (toN ys) * val (toN vs))) (nats (rtN (okR s xs ys && okR t us vs) (zOf s xs * (val (toN vs) : Int) + zOf t us * (val (toN ys) : Int)) (val (toN ys) * val (toN vs)))) (nats (rtD (okR s xs ys && okR t us vs) (zOf s xs * (val (toN vs) : Int) + zOf t us * (val (toN ys) : Int)) (val (toN ys) * val (toN vs)))) w) := by
  obtain ⟨z, hz⟩ : ∃ y9, zOf s xs * (val (toN vs) : Int) + zOf t us * (val (toN ys) : Int) = y9 := ⟨_, rfl⟩
  obtain ⟨bv, hbv⟩ : ∃ y9, val (toN ys) * val (toN vs) = y9 := ⟨_, rfl⟩
  rw [hz, hbv]
  have Hz := Lib.hid hz
  have Hbv := Lib.hid hbv
  clear hz hbv
  obtain ⟨RS, hRS⟩ : ∃ y9, rtS (okR s xs ys && okR t us vs) z bv = y9 := ⟨_, rfl⟩
  obtain ⟨RN, hRN⟩ : ∃ y9, rtN (okR s xs ys && okR t us vs) z bv = y9 := ⟨_, rfl⟩
  obtain ⟨RD, hRD⟩ : ∃ y9, rtD (okR s xs ys && okR t us vs) z bv = y9 := ⟨_, rfl⟩
  rw [hRS, hRN, hRD]
  have HRS := Lib.hid hRS
  have HRN := Lib.hid hRN
  have HRD := Lib.hid hRD
  clear hRS hRN hRD
  have HA := Lib.hid hA
  have HB := Lib.hid hB
  have HC := Lib.hid hC
  have HE := Lib.hid hE
  clear hA hB hC hE
  go_enter Tryz.func34, Tryz.ntmps34
  have HB_0 := Lib.hid ((((Below.refl w.heap.size w).alloc (Nat.le_refl _) (.cells #[.bool s, .slice A n c, .slice B m d] 32)).alloc (by simp) (.cells #[.bool t, .slice C p q, .slice E k l] 32)).alloc (by simp; omega) (.cells #[.bool false, .slice none 0 0, .slice none 0 0] 32))
  have K_a_0 := Lib.hid (((HeldL.new_at w (w.heap.size) [.bool s, .slice A n c, .slice B m d] 32 (by first | rfl | simp)).alloc (.cells #[.bool t, .slice C p q, .slice E k l] 32)).alloc (.cells #[.bool false, .slice none 0 0, .slice none 0 0] 32))
  have K_b_0 := Lib.hid ((HeldL.new_at (w.alloc (.cells #[.bool s, .slice A n c, .slice B m d] 32)) (w.heap.size + 1) [.bool t, .slice C p q, .slice E k l] 32 (by first | rfl | simp)).alloc (.cells #[.bool false, .slice none 0 0, .slice none 0 0] 32))
  have K_res_0 := Lib.hid (HeldL.new_at ((w.alloc (.cells #[.bool s, .slice A n c, .slice B m d] 32)).alloc (.cells #[.bool t, .slice C p q, .slice E k l] 32)) (w.heap.size + 1 + 1) [.bool false, .slice none 0 0, .slice none 0 0] 32 (by first | rfl | simp))
  have hne_a_b : w.heap.size ≠ w.heap.size + 1 := by omega
  have hne_a_res : w.heap.size ≠ w.heap.size + 1 + 1 := by omega
  have hne_b_a : w.heap.size + 1 ≠ w.heap.size := by omega
  have hne_b_res : w.heap.size + 1 ≠ w.heap.size + 1 + 1 := by omega
  have hne_res_a : w.heap.size + 1 + 1 ≠ w.heap.size := by omega
  have hne_res_b : w.heap.size + 1 + 1 ≠ w.heap.size + 1 := by omega
  go_wp2_with fail
  refine (ratOk_spec s A n c xs B m d ys _ (HA.out.below HB_0.out (Nat.le_refl _)) (HB.out.below HB_0.out (Nat.le_refl _))).mono ?_
  rintro e w1 ⟨rfl, hb⟩
  have K_a_1 := Lib.hid (K_a_0.out.after hb)
  have K_b_1 := Lib.hid (K_b_0.out.after hb)
  have K_res_1 := Lib.hid (K_res_0.out.after hb)
  have HB_1 := Lib.hid (HB_0.out.trans (hb.mono HB_0.out.size))
  clear hb
  by_cases hok : okR s xs ys = true
  · rw [hok]
    have hk_b_0_1 := K_b_1.out.cell 0 _ rfl
    have hk_b_1_1 := K_b_1.out.cell 1 _ rfl
    have hk_b_2_1 := K_b_1.out.cell 2 _ rfl
    go_wp2_with fail
    refine (ratOk_spec t C p q us E k l vs _ (HC.out.below HB_1.out (Nat.le_refl _)) (HE.out.below HB_1.out (Nat.le_refl _))).mono ?_
    rintro e w2 ⟨rfl, hb⟩
    have K_a_2 := Lib.hid (K_a_1.out.after hb)
    have K_b_2 := Lib.hid (K_b_1.out.after hb)
    have K_res_2 := Lib.hid (K_res_1.out.after hb)
    have HB_2 := Lib.hid (HB_1.out.trans (hb.mono HB_1.out.size))
    clear hb
    clear hk_b_0_1
    clear hk_b_1_1
    clear hk_b_2_1
    by_cases hok2 : okR t us vs = true
    · rw [hok2]
      obtain ⟨hex, hey, hval⟩ := okR_nats hok
      have HAn := Lib.hid (hex ▸ HA.out)
      have HBn := Lib.hid (hey ▸ HB.out)
      have HV := Lib.hid hval
      have HOK := Lib.hid hok
      clear hex hey hval hok
      obtain ⟨hex, hey, hval⟩ := okR_nats hok2
      have HCn := Lib.hid (hex ▸ HC.out)
      have HEn := Lib.hid (hey ▸ HE.out)
      have HV2 := Lib.hid hval
      have HOK2 := Lib.hid hok2
      clear hex hey hval hok2
      have HLS := Lib.hid (show loS z bv = RS by rw [← HRS.out]; exact (rtS_yes (by rw [HOK.out, HOK2.out]; rfl)).symm)
      have HLN := Lib.hid (show loN z bv = RN by rw [← HRN.out]; exact (rtN_yes (by rw [HOK.out, HOK2.out]; rfl)).symm)
      have HLD := Lib.hid (show loD z bv = RD by rw [← HRD.out]; exact (rtD_yes (by rw [HOK.out, HOK2.out]; rfl)).symm)
      have hk_a_0_2 := K_a_2.out.cell 0 _ rfl
      have hk_a_1_2 := K_a_2.out.cell 1 _ rfl
      have hk_a_2_2 := K_a_2.out.cell 2 _ rfl
      have hk_b_0_2 := K_b_2.out.cell 0 _ rfl
      have hk_b_1_2 := K_b_2.out.cell 1 _ rfl
      have hk_b_2_2 := K_b_2.out.cell 2 _ rfl
      have hk_res_0_2 := K_res_2.out.cell 0 _ rfl
      have hk_res_0_2f := K_res_2.out.froz 0 _ rfl
      have hk_res_1_2 := K_res_2.out.cell 1 _ rfl
      have hk_res_1_2f := K_res_2.out.froz 1 _ rfl
      have hk_res_2_2 := K_res_2.out.cell 2 _ rfl
      have hk_res_2_2f := K_res_2.out.froz 2 _ rfl
      go_wp2_with fail
      have HCM := Lib.hid (l04Add_at s A n c (toN xs) B m d (toN ys) t C p q (toN us) E k l (toN vs) z bv Hz.out Hbv.out _ (HAn.out.below HB_2.out (Nat.le_refl _)) (HBn.out.below HB_2.out (Nat.le_refl _)) HV.out (HCn.out.below HB_2.out (Nat.le_refl _)) (HEn.out.below HB_2.out (Nat.le_refl _)) HV2.out)
      rw [HLS.out, HLN.out, HLD.out] at HCM
      refine (HCM.out).mono ?_
      rintro e w9 ⟨v9n, v9d, rfl, hon, hod, apn, apd, hb⟩
      obtain ⟨A9n, c9n, rfl⟩ := hon.shape
      have HO9n := Lib.hid hon
      obtain ⟨A9d, c9d, rfl⟩ := hod.shape
      have HO9d := Lib.hid hod
      have AP_O9n_O9d := Lib.hid apn
      have AP_O9d_O9n := Lib.hid apd
      clear hon hod apn apd
      have K_a_3 := Lib.hid (K_a_2.out.after hb)
      have K_b_3 := Lib.hid (K_b_2.out.after hb)
      have K_res_3 := Lib.hid (K_res_2.out.after hb)
      have HB_3 := Lib.hid (HB_2.out.trans (hb.mono HB_2.out.size))
      clear hb
      clear hk_a_0_2
      clear hk_a_1_2
      clear hk_a_2_2
      clear hk_b_0_2
      clear hk_b_1_2
      clear hk_b_2_2
      clear hk_res_0_2
      clear hk_res_0_2f
      clear hk_res_1_2
      clear hk_res_1_2f
      clear hk_res_2_2
      clear hk_res_2_2f
      have hk_res_0_3 := K_res_3.out.cell 0 _ rfl
      have hk_res_0_3f := K_res_3.out.froz 0 _ rfl
      have hk_res_1_3 := K_res_3.out.cell 1 _ rfl
      have hk_res_1_3f := K_res_3.out.froz 1 _ rfl
      have hk_res_2_3 := K_res_3.out.cell 2 _ rfl
      have hk_res_2_3f := K_res_3.out.froz 2 _ rfl
      go_wp2
      have hr0 := K_res_3.out.cell 0 _ rfl
      have hr1 := K_res_3.out.cell 1 _ rfl
      have hr2 := K_res_3.out.cell 2 _ rfl
      exact bodyPost_ret (v := .agg #[.bool RS, .slice A9n (nats RN).length c9n, .slice A9d (nats RD).length c9d]) (by simp [results, Tryz.results34, go_sem, hr0, hr1, hr2]) rfl (ownRR_close HB_3.out HO9n.out HO9d.out K_res_2.out.lt K_res_2.out.lt (by omega) AP_O9n_O9d.out AP_O9d_O9n.out)
    · rw [Bool.not_eq_true] at hok2
      rw [hok2]
      obtain rfl : RS = false := by rw [← HRS.out]; exact rtS_no (by rw [hok2, Bool.and_false])
      obtain rfl : RN = [] := by rw [← HRN.out]; exact rtN_no (by rw [hok2, Bool.and_false])
      obtain rfl : RD = [] := by rw [← HRD.out]; exact rtD_no (by rw [hok2, Bool.and_false])
      have hk_res_0_2 := K_res_2.out.cell 0 _ rfl
      have hk_res_0_2f := K_res_2.out.froz 0 _ rfl
      have hk_res_1_2 := K_res_2.out.cell 1 _ rfl
      have hk_res_1_2f := K_res_2.out.froz 1 _ rfl
      have hk_res_2_2 := K_res_2.out.cell 2 _ rfl
      have hk_res_2_2f := K_res_2.out.froz 2 _ rfl
      go_wp2
      have hr0 := K_res_2.out.cell 0 _ rfl
      have hr1 := K_res_2.out.cell 1 _ rfl
      have hr2 := K_res_2.out.cell 2 _ rfl
      refine bodyPost_ret (v := .agg #[.bool false, .slice none 0 0, .slice none 0 0]) (by simp [results, Tryz.results34, go_sem, hr0, hr1, hr2]) rfl ?_
      exact ownRR_close HB_2.out (OwnV.nil _ (w.heap.size + 1 + 1 + 1) _) (OwnV.nil _ (w.heap.size + 1 + 1 + 1) _) (Nat.lt_succ_self _) (Nat.lt_succ_self _) (by omega) (.inl rfl) (.inl rfl)
  · rw [Bool.not_eq_true] at hok
    rw [hok]
    obtain rfl : RS = false := by rw [← HRS.out]; exact rtS_no (by rw [hok, Bool.false_and])
    obtain rfl : RN = [] := by rw [← HRN.out]; exact rtN_no (by rw [hok, Bool.false_and])
    obtain rfl : RD = [] := by rw [← HRD.out]; exact rtD_no (by rw [hok, Bool.false_and])
    have hk_res_0_1 := K_res_1.out.cell 0 _ rfl
    have hk_res_0_1f := K_res_1.out.froz 0 _ rfl
    have hk_res_1_1 := K_res_1.out.cell 1 _ rfl
    have hk_res_1_1f := K_res_1.out.froz 1 _ rfl
    have hk_res_2_1 := K_res_1.out.cell 2 _ rfl
    have hk_res_2_1f := K_res_1.out.froz 2 _ rfl
    go_wp2
    have hr0 := K_res_1.out.cell 0 _ rfl
    have hr1 := K_res_1.out.cell 1 _ rfl
    have hr2 := K_res_1.out.cell 2 _ rfl
    refine bodyPost_ret (v := .agg #[.bool false, .slice none 0 0, .slice none 0 0]) (by simp [results, Tryz.results34, go_sem, hr0, hr1, hr2]) rfl ?_
    exact ownRR_close HB_1.out (OwnV.nil _ (w.heap.size + 1 + 1 + 1) _) (OwnV.nil _ (w.heap.size + 1 + 1 + 1) _) (Nat.lt_succ_self _) (Nat.lt_succ_self _) (by omega) (.inl rfl) (.inl rfl)
end Go.Proofs.YtdilbhkdkppodaaGreat
