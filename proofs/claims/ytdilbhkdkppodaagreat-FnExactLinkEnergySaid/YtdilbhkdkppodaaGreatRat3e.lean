/- Fractions: opposites and differences, in the model. Conditions: none. -/
import Derived.Test.YtdilbhkdkppodaaGreatProg
import Derived.Test.YtdilbhkdkppodaaGreatRat3d
import Derived.Test.YtdilbhkdkppodaaGreatRatNeg
import Derived.Deep.DeepCutAuto
import Derived.Test.YtdilbhkdkppodaaGreatFresh
namespace Go.Proofs.YtdilbhkdkppodaaGreat
open Go.RowKit Nt
set_option linter.unusedVariables false

set_option maxRecDepth 100000 in
set_option maxHeartbeats 4000000 in
theorem l04Neg_at (s : Bool) (A : Option Addr) (n c : Nat) (xs : List Int) (B : Option Addr) (m d : Nat) (ys : List Int) (RS : Bool) (RN RD : List Nat) (hS : sgZ (-(zOf s xs)) = RS) (hN : magZ (-(zOf s xs)) = RN) (hD : toN ys = RD) (hok : okR s xs ys = true) (w : World) (hA : Arg w A n c (ints xs)) (hB : Arg w B m d (ints ys)) :
    Calls Tryz.prog 73 #[.agg #[.bool s, .slice A n c, .slice B m d]] w (OwnRR 3 RS (nats RN) (nats RD) w) := by
  obtain ⟨i0, hi, hz0, hz1, hz2⟩ := info_parts info_int
  obtain ⟨hex, hey, hval⟩ := okR_nats hok
  have HZN := Lib.hid (show signed (!s) (val (toN xs)) = -(zOf s xs) by rw [signed_neg]; rfl)
  have HAn := Lib.hid (hex ▸ hA)
  have HBn := Lib.hid (hD ▸ hey ▸ hB)
  have hmm : m = RD.length := HBn.out.nlen.symm
  have hm0 : 0 < m := by have := hval.2.2.2.2; rw [hD] at this; omega
  have hm1 : m ≤ 24 := by have := hval.2.2.2.1; rw [hD] at this; omega
  have HM0 := Lib.hid hm0
  have HM1 := Lib.hid (show m ≤ maxLen by unfold maxLen; omega)
  have HM2 := Lib.hid (show m * 8 ≤ 140737488355328 by omega)
  have HOC := Lib.hid (nats_oneCell RD)
  have HV := Lib.hid hval.1.1
  clear hex hey hval hD hok hmm hm0 hm1
  have HA := Lib.hid hA
  have HB := Lib.hid hB
  have HS := Lib.hid hS
  have HN := Lib.hid hN
  clear hA hB hS hN
  go_enter Tryz.func73, Tryz.ntmps73
  have HB_0 := Lib.hid (((Below.refl w.heap.size w).alloc (Nat.le_refl _) (.cells #[.bool s, .slice A n c, .slice B m d] 32)).alloc (by simp) (.cells #[.bool false, .slice none 0 0, .slice none 0 0] 32))
  have K_a_0 := Lib.hid ((HeldL.new_at w (w.heap.size) [.bool s, .slice A n c, .slice B m d] 32 (by first | rfl | simp)).alloc (.cells #[.bool false, .slice none 0 0, .slice none 0 0] 32))
  have K_res_0 := Lib.hid (HeldL.new_at (w.alloc (.cells #[.bool s, .slice A n c, .slice B m d] 32)) (w.heap.size + 1) [.bool false, .slice none 0 0, .slice none 0 0] 32 (by first | rfl | simp))
  have hne_a_res : w.heap.size ≠ w.heap.size + 1 := by omega
  have hne_res_a : w.heap.size + 1 ≠ w.heap.size := by omega
  go_upto_region 1 with fail
  obtain ⟨w0, hw0⟩ : ∃ u, ((w.alloc (.cells #[.bool s, .slice A n c, .slice B m d] 32)).alloc (.cells #[.bool false, .slice none 0 0, .slice none 0 0] 32)) = u := ⟨_, rfl⟩
  rw [hw0] at K_a_0 K_res_0 HB_0 ⊢
  clear hw0
  have hk_a_0_0 := K_a_0.out.cell 0 _ rfl
  have hk_a_1_0 := K_a_0.out.cell 1 _ rfl
  have hk_a_2_0 := K_a_0.out.cell 2 _ rfl
  have hk_res_0_0 := K_res_0.out.cell 0 _ rfl
  have hk_res_0_0f := K_res_0.out.froz 0 _ rfl
  have hk_res_1_0 := K_res_0.out.cell 1 _ rfl
  have hk_res_1_0f := K_res_0.out.froz 1 _ rfl
  have hk_res_2_0 := K_res_0.out.cell 2 _ rfl
  have hk_res_2_0f := K_res_0.out.froz 2 _ rfl
  go_cut [2] (fun ptr wx => ptr = .pointer (some ⟨w.heap.size + 1, 0, none⟩) ∧ ∃ A1 c1 A2 c2, HeldL wx (w.heap.size + 1) [.bool RS, .slice A1 (nats RN).length c1, .slice A2 (nats RD).length c2] ∧ OwnV wx w.heap.size 3 (.slice A1 (nats RN).length c1) (nats RN) ∧ OwnV wx w.heap.size 3 (.slice A2 (nats RD).length c2) (nats RD) ∧ ((Value.slice A1 (nats RN).length c1).ownBlock = none ∨ (Value.slice A1 (nats RN).length c1).ownBlock ≠ (Value.slice A2 (nats RD).length c2).ownBlock) ∧ ((Value.slice A2 (nats RD).length c2).ownBlock = none ∨ (Value.slice A2 (nats RD).length c2).ownBlock ≠ (Value.slice A1 (nats RN).length c1).ownBlock) ∧ Below w.heap.size w wx)
  case first =>
    go_region_held3 (fun w' => w'.cell? ⟨w.heap.size, 0, none⟩ = some (.bool s) ∧ w'.cell? ⟨w.heap.size, 1, none⟩ = some (.slice A n c) ∧ w'.cell? ⟨w.heap.size, 2, none⟩ = some (.slice B m d)) (go_keep)
      (first
        | (go_at_call 105
           refine (l03Make_let (!s) A n c (toN xs) (-(zOf s xs)) RS RN HZN.out HS.out HN.out _ ?_ HV.out).mono ?_
           first | exact HAn.out.below HB_0.out.drew (Nat.le_refl _) | exact HAn.out.below (HB_0.out.alloc HB_0.out.size (.cells #[] 3)).drew (Nat.le_refl _)
           rintro e w1 ⟨v1, rfl, ho, hb⟩
           obtain ⟨A1, c1, rfl⟩ := ho.shape
           have T9 : HeldL w1 (w.heap.size) [.bool s, .slice A n c, .slice B m d] := by first | exact K_a_0.out.drew.after hb | exact (K_a_0.out.alloc (.cells #[] 3)).drew.after hb
           have KA1 := Lib.hid T9
           clear T9
           have T9 : HeldL w1 (w.heap.size + 1) [.bool false, .slice none 0 0, .slice none 0 0] := by first | exact K_res_0.out.drew.after hb | exact (K_res_0.out.alloc (.cells #[] 3)).drew.after hb
           have KR1 := Lib.hid T9
           clear T9
           have T9 : OwnV w1 w0.heap.size 3 (.slice A1 (nats RN).length c1) (nats RN) := by first | exact ho.based (Nat.le_refl _) | exact ho.based (by simp)
           have HO1 := Lib.hid T9
           clear T9 ho
           have T9 : Below w.heap.size w w1 := by first | exact (HB_0.out.drew).trans (hb.mono (HB_0.out.drew).size) | exact ((HB_0.out.alloc HB_0.out.size (.cells #[] 3)).drew).trans (hb.mono ((HB_0.out.alloc HB_0.out.size (.cells #[] 3)).drew).size)
           have HB1 := Lib.hid T9
           clear T9 hb
           have hka1_0 := KA1.out.cell 0 _ rfl
           have hka1_1 := KA1.out.cell 1 _ rfl
           have hka1_2 := KA1.out.cell 2 _ rfl)
        | (refine step_append_fresh rfl (.tmp 11) (.tmp 13) 22 rfl 3 i0 _ 8 Tryz.underlying22 hi hz0 hz1 hz2 rfl _ (by simp [Act.eval] <;> rfl) B m d (nats RD) (by simp [Act.eval] <;> rfl) HM0.out HM1.out HM2.out HOC.out ?_ ?_
           first | exact (HBn.out.below HB1.out (Nat.le_refl _)).1 | exact (HBn.out.below (HB1.out.alloc HB1.out.size (.cells #[] 3)) (Nat.le_refl _)).1
           intro A2 c2 w2 ho hb
           have T9 : HeldL w2 (w.heap.size) [.bool s, .slice A n c, .slice B m d] := by first | exact KA1.out.after hb | exact (KA1.out.alloc (.cells #[] 3)).after hb
           have KA2 := Lib.hid T9
           clear T9
           have T9 : HeldL w2 (w.heap.size + 1) [.bool false, .slice none 0 0, .slice none 0 0] := by first | exact KR1.out.after hb | exact (KR1.out.alloc (.cells #[] 3)).after hb
           have KR2 := Lib.hid T9
           clear T9
           have T9 : OwnV w2 w0.heap.size 3 (.slice A1 (nats RN).length c1) (nats RN) := by first | exact OwnV.below HO1.out hb | exact OwnV.below (OwnV.below HO1.out ((Below.refl _ w1).alloc (Nat.le_refl _) (.cells #[] 3))) hb
           have HO1b := Lib.hid T9
           clear T9
           have AP1 := Lib.hid (show (Value.slice A1 (nats RN).length c1).ownBlock = none ∨ (Value.slice A1 (nats RN).length c1).ownBlock ≠ (Value.slice A2 (nats RD).length c2).ownBlock by first | exact OwnV.apart HO1.out ho (Nat.le_refl _) | exact OwnV.apart HO1.out ho (by simp))
           have AP2 := Lib.hid (show (Value.slice A2 (nats RD).length c2).ownBlock = none ∨ (Value.slice A2 (nats RD).length c2).ownBlock ≠ (Value.slice A1 (nats RN).length c1).ownBlock by first | exact OwnV.apart' ho HO1.out (Nat.le_refl _) | exact OwnV.apart' ho HO1.out (by simp))
           have T9 : OwnV w2 w1.heap.size 3 (.slice A2 (nats RD).length c2) (nats RD) := by first | exact ho.based (Nat.le_refl _) | exact ho.based (by simp)
           have HO2 := Lib.hid T9
           clear T9 ho
           have T9 : Below w.heap.size w w2 := by first | exact HB1.out.trans (hb.mono HB1.out.size) | exact (HB1.out.alloc HB1.out.size (.cells #[] 3)).trans (hb.mono (HB1.out.alloc HB1.out.size (.cells #[] 3)).size)
           have HB2 := Lib.hid T9
           clear T9 hb
           have hka2_0 := KA2.out.cell 0 _ rfl
           have hka2_1 := KA2.out.cell 1 _ rfl
           have hka2_2 := KA2.out.cell 2 _ rfl
           have hkr2_0 := KR2.out.cell 0 _ rfl
           have hkr2_1 := KR2.out.cell 1 _ rfl
           have hkr2_2 := KR2.out.cell 2 _ rfl
           have hkf2_0 := KR2.out.froz 0 _ rfl
           have hkf2_1 := KR2.out.froz 1 _ rfl
           have hkf2_2 := KR2.out.froz 2 _ rfl))
    all_goals go_wp2_with fail
    all_goals go_meet
    all_goals refine ⟨rfl, A1, c1, A2, c2, ?_, ?_, ?_, AP1.out, AP2.out, ?_⟩
    all_goals first
      | exact ((KR2.out.set 0 _ _ rfl).set 1 _ _ rfl).set 2 _ _ rfl
      | exact (((HO1b.out.setBelow K_res_0.out.lt _).setBelow K_res_0.out.lt _).setBelow K_res_0.out.lt _).based HB_0.out.size
      | exact (((HO2.out.setBelow KR1.out.lt _).setBelow KR1.out.lt _).setBelow KR1.out.lt _).based HB1.out.size
      | exact ((HB2.out.setCell (by simp) _).setCell (by simp) _).setCell (by simp) _
  clear hk_a_0_0
  clear hk_a_1_0
  clear hk_a_2_0
  clear hk_res_0_0
  clear hk_res_0_0f
  clear hk_res_1_0
  clear hk_res_1_0f
  clear hk_res_2_0
  clear hk_res_2_0f
  obtain ⟨rfl, A1, c1, A2, c2, hkr, ho1, ho2, ap1, ap2, hbw⟩ := hcut
  have HKR := Lib.hid hkr
  have HO1 := Lib.hid ho1
  have HO2 := Lib.hid ho2
  have AP1 := Lib.hid ap1
  have AP2 := Lib.hid ap2
  have HBW := Lib.hid hbw
  clear hkr ho1 ho2 ap1 ap2 hbw
  go_wp2
  have hr0 := HKR.out.cell 0 _ rfl
  have hr1 := HKR.out.cell 1 _ rfl
  have hr2 := HKR.out.cell 2 _ rfl
  exact bodyPost_ret (v := .agg #[.bool RS, .slice A1 (nats RN).length c1, .slice A2 (nats RD).length c2]) (by simp [results, Tryz.results73, go_sem, hr0, hr1, hr2]) rfl ⟨_, _, rfl, HO1.out, HO2.out, AP1.out, AP2.out, HBW.out⟩
set_option maxRecDepth 100000 in
set_option maxHeartbeats 4000000 in
theorem ratSub_spec (s : Bool) (A : Option Addr) (n c : Nat) (xs : List Int) (B : Option Addr) (m d : Nat) (ys : List Int) (t : Bool) (C : Option Addr) (p q : Nat) (us : List Int) (E : Option Addr) (k l : Nat) (vs : List Int) (w : World) (hA : Arg w A n c (ints xs)) (hB : Arg w B m d (ints ys)) (hC : Arg w C p q (ints us)) (hE : Arg w E k l (ints vs)) :
    Calls Tryz.prog 38 #[.agg #[.bool s, .slice A n c, .slice B m d], .agg #[.bool t, .slice C p q, .slice E k l]] w (OwnRR 3 (rtS (okR s xs ys && okR t us vs) (zOf s xs * (val (toN vs) : Int) - zOf t us * (val (toN ys) : Int)) (val (toN ys) * val (toN vs))) (nats (rtN (okR s xs ys && okR t us vs) (zOf s xs * (val (toN vs) : Int) - zOf t us * (val (toN ys) : Int)) (val (toN ys) * val (toN vs)))) (nats (rtD (okR s xs ys && okR t us vs) (zOf s xs * (val (toN vs) : Int) - zOf t us * (val (toN ys) : Int)) (val (toN ys) * val (toN vs)))) w) := by
  obtain ⟨z, hz⟩ : ∃ y9, zOf s xs * (val (toN vs) : Int) - zOf t us * (val (toN ys) : Int) = y9 := ⟨_, rfl⟩
  obtain ⟨bv, hbv⟩ : ∃ y9, val (toN ys) * val (toN vs) = y9 := ⟨_, rfl⟩
  rw [hz, hbv]
  have Hz := Lib.hid hz
  have Hbv := Lib.hid hbv
  clear hz hbv
  obtain ⟨RS, hRS⟩ : ∃ y9, rtS (okR s xs ys && okR t us vs) z bv = y9 := ⟨_, rfl⟩
  obtain ⟨RN, hRN⟩ : ∃ y9, rtN (okR s xs ys && okR t us vs) z bv = y9 := ⟨_, rfl⟩
  obtain ⟨RD, hRD⟩ : ∃ y9, rtD (okR s xs ys && okR t us vs) z bv = y9 := ⟨_, rfl⟩
  rw [hRS, hRN, hRD]
  have HRS := Lib.hid hRS
  have HRN := Lib.hid hRN
  have HRD := Lib.hid hRD
  clear hRS hRN hRD
  have HA := Lib.hid hA
  have HB := Lib.hid hB
  have HC := Lib.hid hC
  have HE := Lib.hid hE
  clear hA hB hC hE
  go_enter Tryz.func38, Tryz.ntmps38
  have HB_0 := Lib.hid ((((Below.refl w.heap.size w).alloc (Nat.le_refl _) (.cells #[.bool s, .slice A n c, .slice B m d] 32)).alloc (by simp) (.cells #[.bool t, .slice C p q, .slice E k l] 32)).alloc (by simp; omega) (.cells #[.bool false, .slice none 0 0, .slice none 0 0] 32))
  have K_a_0 := Lib.hid (((HeldL.new_at w (w.heap.size) [.bool s, .slice A n c, .slice B m d] 32 (by first | rfl | simp)).alloc (.cells #[.bool t, .slice C p q, .slice E k l] 32)).alloc (.cells #[.bool false, .slice none 0 0, .slice none 0 0] 32))
  have K_b_0 := Lib.hid ((HeldL.new_at (w.alloc (.cells #[.bool s, .slice A n c, .slice B m d] 32)) (w.heap.size + 1) [.bool t, .slice C p q, .slice E k l] 32 (by first | rfl | simp)).alloc (.cells #[.bool false, .slice none 0 0, .slice none 0 0] 32))
  have K_res_0 := Lib.hid (HeldL.new_at ((w.alloc (.cells #[.bool s, .slice A n c, .slice B m d] 32)).alloc (.cells #[.bool t, .slice C p q, .slice E k l] 32)) (w.heap.size + 1 + 1) [.bool false, .slice none 0 0, .slice none 0 0] 32 (by first | rfl | simp))
  have hne_a_b : w.heap.size ≠ w.heap.size + 1 := by omega
  have hne_a_res : w.heap.size ≠ w.heap.size + 1 + 1 := by omega
  have hne_b_a : w.heap.size + 1 ≠ w.heap.size := by omega
  have hne_b_res : w.heap.size + 1 ≠ w.heap.size + 1 + 1 := by omega
  have hne_res_a : w.heap.size + 1 + 1 ≠ w.heap.size := by omega
  have hne_res_b : w.heap.size + 1 + 1 ≠ w.heap.size + 1 := by omega
  go_wp2_with fail
  refine (ratOk_spec s A n c xs B m d ys _ (HA.out.below HB_0.out (Nat.le_refl _)) (HB.out.below HB_0.out (Nat.le_refl _))).mono ?_
  rintro e w1 ⟨rfl, hb⟩
  have K_a_1 := Lib.hid (K_a_0.out.after hb)
  have K_b_1 := Lib.hid (K_b_0.out.after hb)
  have K_res_1 := Lib.hid (K_res_0.out.after hb)
  have HB_1 := Lib.hid (HB_0.out.trans (hb.mono HB_0.out.size))
  clear hb
  by_cases hok : okR s xs ys = true
  · rw [hok]
    have hk_b_0_1 := K_b_1.out.cell 0 _ rfl
    have hk_b_1_1 := K_b_1.out.cell 1 _ rfl
    have hk_b_2_1 := K_b_1.out.cell 2 _ rfl
    go_wp2_with fail
    refine (ratOk_spec t C p q us E k l vs _ (HC.out.below HB_1.out (Nat.le_refl _)) (HE.out.below HB_1.out (Nat.le_refl _))).mono ?_
    rintro e w2 ⟨rfl, hb⟩
    have K_a_2 := Lib.hid (K_a_1.out.after hb)
    have K_b_2 := Lib.hid (K_b_1.out.after hb)
    have K_res_2 := Lib.hid (K_res_1.out.after hb)
    have HB_2 := Lib.hid (HB_1.out.trans (hb.mono HB_1.out.size))
    clear hb
    clear hk_b_0_1
    clear hk_b_1_1
    clear hk_b_2_1
    by_cases hok2 : okR t us vs = true
    · rw [hok2]
      obtain ⟨hex, hey, hval⟩ := okR_nats hok
      have HAn := Lib.hid (hex ▸ HA.out)
      have HBn := Lib.hid (hey ▸ HB.out)
      have HV := Lib.hid hval
      have HOK := Lib.hid hok
      clear hex hey hval hok
      obtain ⟨hex, hey, hval⟩ := okR_nats hok2
      have HCn := Lib.hid (hex ▸ HC.out)
      have HEn := Lib.hid (hey ▸ HE.out)
      have HV2 := Lib.hid hval
      have HOK2 := Lib.hid hok2
      clear hex hey hval hok2
      have HLS := Lib.hid (show loS z bv = RS by rw [← HRS.out]; exact (rtS_yes (by rw [HOK.out, HOK2.out]; rfl)).symm)
      have HLN := Lib.hid (show loN z bv = RN by rw [← HRN.out]; exact (rtN_yes (by rw [HOK.out, HOK2.out]; rfl)).symm)
      have HLD := Lib.hid (show loD z bv = RD by rw [← HRD.out]; exact (rtD_yes (by rw [HOK.out, HOK2.out]; rfl)).symm)
      obtain ⟨g7, hg7⟩ : ∃ y9, sgZ (-(zOf t us)) = y9 := ⟨_, rfl⟩
      obtain ⟨M7, hM7⟩ : ∃ y9, magZ (-(zOf t us)) = y9 := ⟨_, rfl⟩
      have hsm : (-(zOf t us)).natAbs < 1000000000 ^ 60 := by rw [Int.natAbs_neg]; exact okB_abs (okR_parts HOK2.out).1
      have HBK := Lib.hid (show signed g7 (val M7) = -(zOf t us) by rw [← hg7, ← hM7]; exact back_z hsm)
      have HV7 := Lib.hid (show Valid M7 (toN vs) by refine ⟨hM7 ▸ magZ_can _, HV2.out.2.1, ?_, HV2.out.2.2.2⟩; rw [← hM7, magZ_small hsm, Int.natAbs_neg, zOf, signed_abs, dig_of_can HV2.out.1]; exact HV2.out.2.2.1)
      have HZ7 := Lib.hid (show signed s (val (toN xs)) * (val (toN vs) : Int) + signed g7 (val M7) * (val (toN ys) : Int) = z by rw [HBK.out, Int.neg_mul, ← Hz.out]; rfl)
      have Hg7 := Lib.hid hg7
      have HM7 := Lib.hid hM7
      clear hg7 hM7 hsm
      have hk_a_0_2 := K_a_2.out.cell 0 _ rfl
      have hk_a_1_2 := K_a_2.out.cell 1 _ rfl
      have hk_a_2_2 := K_a_2.out.cell 2 _ rfl
      have hk_b_0_2 := K_b_2.out.cell 0 _ rfl
      have hk_b_1_2 := K_b_2.out.cell 1 _ rfl
      have hk_b_2_2 := K_b_2.out.cell 2 _ rfl
      have hk_res_0_2 := K_res_2.out.cell 0 _ rfl
      have hk_res_0_2f := K_res_2.out.froz 0 _ rfl
      have hk_res_1_2 := K_res_2.out.cell 1 _ rfl
      have hk_res_1_2f := K_res_2.out.froz 1 _ rfl
      have hk_res_2_2 := K_res_2.out.cell 2 _ rfl
      have hk_res_2_2f := K_res_2.out.froz 2 _ rfl
      go_wp2
      go_region_held3 (fun w' => w'.cell? ⟨w.heap.size, 0, none⟩ = some (.bool s) ∧ w'.cell? ⟨w.heap.size, 1, none⟩ = some (.slice A n c) ∧ w'.cell? ⟨w.heap.size, 2, none⟩ = some (.slice B m d) ∧ w'.cell? ⟨w.heap.size + 1, 0, none⟩ = some (.bool t) ∧ w'.cell? ⟨w.heap.size + 1, 1, none⟩ = some (.slice C p q) ∧ w'.cell? ⟨w.heap.size + 1, 2, none⟩ = some (.slice E k l)) (go_keep)
        (first
          | (go_at_call 73
             refine (l04Neg_at t C p q us E k l vs g7 M7 (toN vs) Hg7.out HM7.out rfl HOK2.out _ (HC.out.below HB_2.out.drew (Nat.le_refl _)) (HE.out.below HB_2.out.drew (Nat.le_refl _))).mono ?_
             rintro e w7 ⟨v7n, v7d, rfl, hon, hod, apn, apd, hb⟩
             obtain ⟨A7n, c7n, rfl⟩ := hon.shape
             obtain ⟨A7d, c7d, rfl⟩ := hod.shape
             have HO7n := Lib.hid hon
             have HO7d := Lib.hid hod
             clear hon hod apn apd
             have K_a_3 := Lib.hid (K_a_2.out.drew.after hb)
             have K_b_3 := Lib.hid (K_b_2.out.drew.after hb)
             have K_res_3 := Lib.hid (K_res_2.out.drew.after hb)
             have HB_3 := Lib.hid (HB_2.out.drew.trans (hb.mono HB_2.out.drew.size))
             clear hb
             have hk_a_0_3 := K_a_3.out.cell 0 _ rfl
             have hk_a_1_3 := K_a_3.out.cell 1 _ rfl
             have hk_a_2_3 := K_a_3.out.cell 2 _ rfl
             have hk_b_0_3 := K_b_3.out.cell 0 _ rfl
             have hk_b_1_3 := K_b_3.out.cell 1 _ rfl
             have hk_b_2_3 := K_b_3.out.cell 2 _ rfl)
          | (go_at_call 69
             have HADD := fun u h1 h2 h3 h4 => l04Add_at s A n c (toN xs) B m d (toN ys) g7 A7n (nats M7).length c7n M7 A7d (nats (toN vs)).length c7d (toN vs) z bv HZ7.out Hbv.out u h1 h2 HV.out h3 h4 HV7.out
             rw [HLS.out, HLN.out, HLD.out] at HADD
             refine (HADD _ (HAn.out.below HB_3.out (Nat.le_refl _)) (HBn.out.below HB_3.out (Nat.le_refl _)) HO7n.out.arg HO7d.out.arg).mono ?_
             clear HADD
             rintro e w9 ⟨v9n, v9d, rfl, hon, hod, apn, apd, hb⟩
             obtain ⟨A9n, c9n, rfl⟩ := hon.shape
             obtain ⟨A9d, c9d, rfl⟩ := hod.shape
             have HO9n := Lib.hid hon
             have HO9d := Lib.hid hod
             have AP_O9n_O9d := Lib.hid apn
             have AP_O9d_O9n := Lib.hid apd
             clear hon hod apn apd
             have K_a_4 := Lib.hid (K_a_3.out.after hb)
             have K_b_4 := Lib.hid (K_b_3.out.after hb)
             have K_res_4 := Lib.hid (K_res_3.out.after hb)
             have H_O7n_4 := Lib.hid (OwnV.below (w := w7) HO7n.out hb)
             have H_O7d_4 := Lib.hid (OwnV.below (w := w7) HO7d.out hb)
             have HB_4 := Lib.hid (HB_3.out.trans (hb.mono HB_3.out.size))
             clear hb
             have hk_a_0_4 := K_a_4.out.cell 0 _ rfl
             have hk_a_1_4 := K_a_4.out.cell 1 _ rfl
             have hk_a_2_4 := K_a_4.out.cell 2 _ rfl
             have hk_b_0_4 := K_b_4.out.cell 0 _ rfl
             have hk_b_1_4 := K_b_4.out.cell 1 _ rfl
             have hk_b_2_4 := K_b_4.out.cell 2 _ rfl
             have hk_res_0_4 := K_res_4.out.cell 0 _ rfl
             have hk_res_0_4f := K_res_4.out.froz 0 _ rfl
             have hk_res_1_4 := K_res_4.out.cell 1 _ rfl
             have hk_res_1_4f := K_res_4.out.froz 1 _ rfl
             have hk_res_2_4 := K_res_4.out.cell 2 _ rfl
             have hk_res_2_4f := K_res_4.out.froz 2 _ rfl))
      go_wp2
      have hr0 := K_res_4.out.cell 0 _ rfl
      have hr1 := K_res_4.out.cell 1 _ rfl
      have hr2 := K_res_4.out.cell 2 _ rfl
      exact bodyPost_ret (v := .agg #[.bool RS, .slice A9n (nats RN).length c9n, .slice A9d (nats RD).length c9d]) (by simp [results, Tryz.results38, go_sem, hr0, hr1, hr2]) rfl (ownRR_close HB_4.out HO9n.out HO9d.out K_res_3.out.lt K_res_3.out.lt (by omega) AP_O9n_O9d.out AP_O9d_O9n.out)
    · rw [Bool.not_eq_true] at hok2
      rw [hok2]
      obtain rfl : RS = false := by rw [← HRS.out]; exact rtS_no (by rw [hok2, Bool.and_false])
      obtain rfl : RN = [] := by rw [← HRN.out]; exact rtN_no (by rw [hok2, Bool.and_false])
      obtain rfl : RD = [] := by rw [← HRD.out]; exact rtD_no (by rw [hok2, Bool.and_false])
      have hk_res_0_2 := K_res_2.out.cell 0 _ rfl
      have hk_res_0_2f := K_res_2.out.froz 0 _ rfl
      have hk_res_1_2 := K_res_2.out.cell 1 _ rfl
      have hk_res_1_2f := K_res_2.out.froz 1 _ rfl
      have hk_res_2_2 := K_res_2.out.cell 2 _ rfl
      have hk_res_2_2f := K_res_2.out.froz 2 _ rfl
      go_wp2
      have hr0 := K_res_2.out.cell 0 _ rfl
      have hr1 := K_res_2.out.cell 1 _ rfl
      have hr2 := K_res_2.out.cell 2 _ rfl
      refine bodyPost_ret (v := .agg #[.bool false, .slice none 0 0, .slice none 0 0]) (by simp [results, Tryz.results38, go_sem, hr0, hr1, hr2]) rfl ?_
      exact ownRR_close HB_2.out (OwnV.nil _ (w.heap.size + 1 + 1 + 1) _) (OwnV.nil _ (w.heap.size + 1 + 1 + 1) _) (Nat.lt_succ_self _) (Nat.lt_succ_self _) (by omega) (.inl rfl) (.inl rfl)
  · rw [Bool.not_eq_true] at hok
    rw [hok]
    obtain rfl : RS = false := by rw [← HRS.out]; exact rtS_no (by rw [hok, Bool.false_and])
    obtain rfl : RN = [] := by rw [← HRN.out]; exact rtN_no (by rw [hok, Bool.false_and])
    obtain rfl : RD = [] := by rw [← HRD.out]; exact rtD_no (by rw [hok, Bool.false_and])
    have hk_res_0_1 := K_res_1.out.cell 0 _ rfl
    have hk_res_0_1f := K_res_1.out.froz 0 _ rfl
    have hk_res_1_1 := K_res_1.out.cell 1 _ rfl
    have hk_res_1_1f := K_res_1.out.froz 1 _ rfl
    have hk_res_2_1 := K_res_1.out.cell 2 _ rfl
    have hk_res_2_1f := K_res_1.out.froz 2 _ rfl
    go_wp2
    have hr0 := K_res_1.out.cell 0 _ rfl
    have hr1 := K_res_1.out.cell 1 _ rfl
    have hr2 := K_res_1.out.cell 2 _ rfl
    refine bodyPost_ret (v := .agg #[.bool false, .slice none 0 0, .slice none 0 0]) (by simp [results, Tryz.results38, go_sem, hr0, hr1, hr2]) rfl ?_
    exact ownRR_close HB_1.out (OwnV.nil _ (w.heap.size + 1 + 1 + 1) _) (OwnV.nil _ (w.heap.size + 1 + 1 + 1) _) (Nat.lt_succ_self _) (Nat.lt_succ_self _) (by omega) (.inl rfl) (.inl rfl)
end Go.Proofs.YtdilbhkdkppodaaGreat
