/- Fractions: sums, in the model. Conditions: none. -/
import Derived.Test.YtdilbhkdkppodaaGreatProg
import Derived.Test.YtdilbhkdkppodaaGreatRat3c
import Derived.Test.YtdilbhkdkppodaaGreatOpenB
import Derived.Deep.DeepCutAuto
namespace Go.Proofs.YtdilbhkdkppodaaGreat
open Go.RowKit Nt
set_option linter.unusedVariables false

set_option maxRecDepth 100000 in
set_option maxHeartbeats 4000000 in
theorem l04Add_one (s : Bool) (A : Option Addr) (n c : Nat) (ds : List Nat) (B : Option Addr) (m d : Nat) (bs : List Nat) (t : Bool) (C : Option Addr) (p q : Nat) (es : List Nat) (E : Option Addr) (k l : Nat) (gs : List Nat) (z : Int) (bv : Nat) (hz : signed s (val ds) * (val gs : Int) + signed t (val es) * (val bs : Int) = z) (hbv : val bs * val gs = bv) (w : World) (hA : Arg w A n c (nats ds)) (hB : Arg w B m d (nats bs)) (hv : Valid ds bs) (hC : Arg w C p q (nats es)) (hE : Arg w E k l (nats gs)) (hv2 : Valid es gs) (h1 : isOne bs = true) (h2 : isOne gs = true) :
    Calls Tryz.prog 69 #[.agg #[.bool s, .slice A n c, .slice B m d], .agg #[.bool t, .slice C p q, .slice E k l]] w (OwnRR 3 (loS z bv) (nats (loN z bv)) (nats (loD z bv)) w) := by
  obtain ⟨RS, hRS⟩ : ∃ y9, loS z bv = y9 := ⟨_, rfl⟩
  obtain ⟨RN, hRN⟩ : ∃ y9, loN z bv = y9 := ⟨_, rfl⟩
  obtain ⟨RD, hRD⟩ : ∃ y9, loD z bv = y9 := ⟨_, rfl⟩
  rw [hRS, hRN, hRD]
  have HLS := Lib.hid hRS
  have HLN := Lib.hid hRN
  have HLD := Lib.hid hRD
  clear hRS hRN hRD
  have hn : n ≤ 24 := by have := hA.nlen; have := hv.2.2.1; omega
  have hm : m ≤ 24 := by have := hB.nlen; have := hv.2.2.2.1; omega
  have hp : p ≤ 24 := by have := hC.nlen; have := hv2.2.2.1; omega
  have hk : k ≤ 24 := by have := hE.nlen; have := hv2.2.2.2.1; omega
  have HBZ := Lib.hid (show z.natAbs < 1000000000 ^ 60 by rw [← hz]; exact add_small hv hv2)
  obtain ⟨z1, hz1⟩ : ∃ y9, signed s (val ds) * (val gs : Int) = y9 := ⟨_, rfl⟩
  obtain ⟨z2, hz2⟩ : ∃ y9, signed t (val es) * (val bs : Int) = y9 := ⟨_, rfl⟩
  have HBK1 := Lib.hid (show signed (sgZ z1) (val (magZ z1)) = z1 by rw [← hz1]; exact back_z (one_small hv.1 hv.2.2.1 hv2.2.1 hv2.2.2.2.1))
  have HBK2 := Lib.hid (show signed (sgZ z2) (val (magZ z2)) = z2 by rw [← hz2]; exact back_z (one_small hv2.1 hv2.2.2.1 hv.2.1 hv.2.2.2.1))
  have HZ1 := Lib.hid (show signed s (val (dig (val ds * val gs))) = z1 by rw [val_dig, signed_z]; exact hz1)
  have HZ2 := Lib.hid (show signed t (val (dig (val es * val bs))) = z2 by rw [val_dig, signed_z]; exact hz2)
  have HZO := Lib.hid (show val bs = 1 → val gs = 1 → signed s (val ds) + signed t (val es) = z by intro h1 h2; rw [← hz, h1, h2]; simp)
  have HBO := Lib.hid (show val bs = 1 → val gs = 1 → val [1] = bv by intro h1 h2; rw [← hbv, h1, h2]; rfl)
  obtain ⟨g1, hg1⟩ : ∃ y9, sgZ z1 = y9 := ⟨_, rfl⟩
  obtain ⟨g2, hg2⟩ : ∃ y9, sgZ z2 = y9 := ⟨_, rfl⟩
  obtain ⟨g8, hg8⟩ : ∃ y9, sgZ z = y9 := ⟨_, rfl⟩
  obtain ⟨M1, hM1⟩ : ∃ y9, magZ z1 = y9 := ⟨_, rfl⟩
  obtain ⟨M2, hM2⟩ : ∃ y9, magZ z2 = y9 := ⟨_, rfl⟩
  obtain ⟨M8, hM8⟩ : ∃ y9, magZ z = y9 := ⟨_, rfl⟩
  have HCM1 := Lib.hid (hM1 ▸ magZ_can z1)
  have HCM2 := Lib.hid (hM2 ▸ magZ_can z2)
  have HCM8 := Lib.hid (hM8 ▸ magZ_can z)
  have HLM1 := Lib.hid (show (nats M1).length ≤ 60 by rw [nats_len, ← hM1]; exact capd_len _)
  have HLM2 := Lib.hid (show (nats M2).length ≤ 60 by rw [nats_len, ← hM2]; exact capd_len _)
  have HLM8 := Lib.hid (show (nats M8).length ≤ 60 by rw [nats_len, ← hM8]; exact capd_len _)
  have HSUM := Lib.hid (show signed g1 (val M1) + signed g2 (val M2) = z by rw [← hg1, ← hg2, ← hM1, ← hM2, HBK1.out, HBK2.out, ← hz1, ← hz2]; exact hz)
  have HZ8 := Lib.hid (show signed g8 (val M8) = z by rw [← hg8, ← hM8]; exact back_z HBZ.out)
  have HLB := Lib.hid (mul_len hv.2.1 hv.2.2.2.1 hv2.2.1 hv2.2.2.2.1)
  clear hz hz1 hz2
  have Hg1 := Lib.hid hg1
  have Hg2 := Lib.hid hg2
  have Hg8 := Lib.hid hg8
  have HM1 := Lib.hid hM1
  have HM2 := Lib.hid hM2
  have HM8 := Lib.hid hM8
  clear hg1 hg2 hg8 hM1 hM2 hM8
  have HA := Lib.hid hA
  have HB := Lib.hid hB
  have HC := Lib.hid hC
  have HE := Lib.hid hE
  have Hv := Lib.hid hv
  have Hv2 := Lib.hid hv2
  have Hbv := Lib.hid hbv
  clear hA hB hC hE hv hv2 hbv
  go_enter Tryz.func69, Tryz.ntmps69
  have HB_0 := Lib.hid ((((Below.refl w.heap.size w).alloc (Nat.le_refl _) (.cells #[.bool s, .slice A n c, .slice B m d] 32)).alloc (by simp) (.cells #[.bool t, .slice C p q, .slice E k l] 32)).alloc (by simp; omega) (.cells #[.bool false, .slice none 0 0, .slice none 0 0] 32))
  have K_a_0 := Lib.hid (((HeldL.new_at w (w.heap.size) [.bool s, .slice A n c, .slice B m d] 32 (by first | rfl | simp)).alloc (.cells #[.bool t, .slice C p q, .slice E k l] 32)).alloc (.cells #[.bool false, .slice none 0 0, .slice none 0 0] 32))
  have K_b_0 := Lib.hid ((HeldL.new_at (w.alloc (.cells #[.bool s, .slice A n c, .slice B m d] 32)) (w.heap.size + 1) [.bool t, .slice C p q, .slice E k l] 32 (by first | rfl | simp)).alloc (.cells #[.bool false, .slice none 0 0, .slice none 0 0] 32))
  have K_res_0 := Lib.hid (HeldL.new_at ((w.alloc (.cells #[.bool s, .slice A n c, .slice B m d] 32)).alloc (.cells #[.bool t, .slice C p q, .slice E k l] 32)) (w.heap.size + 1 + 1) [.bool false, .slice none 0 0, .slice none 0 0] 32 (by first | rfl | simp))
  have hne_a_b : w.heap.size ≠ w.heap.size + 1 := by omega
  have hne_a_res : w.heap.size ≠ w.heap.size + 1 + 1 := by omega
  have hne_b_a : w.heap.size + 1 ≠ w.heap.size := by omega
  have hne_b_res : w.heap.size + 1 ≠ w.heap.size + 1 + 1 := by omega
  have hne_res_a : w.heap.size + 1 + 1 ≠ w.heap.size := by omega
  have hne_res_b : w.heap.size + 1 + 1 ≠ w.heap.size + 1 := by omega
  go_wp2_with fail
  refine (l04One_any B m d bs _ (HB.out.below HB_0.out (Nat.le_refl _)).1 HB.out.max).mono ?_
  rintro e w1 ⟨rfl, rfl⟩
  rw [h1]
  go_wp2_with fail
  refine (l04One_any E k l gs _ (HE.out.below HB_0.out (Nat.le_refl _)).1 HE.out.max).mono ?_
  rintro e w1 ⟨rfl, rfl⟩
  rw [h2]
  have HO1 := Lib.hid (show val bs = 1 by rw [isOne_yes h1]; rfl)
  have HO2 := Lib.hid (show val gs = 1 by rw [isOne_yes h2]; rfl)
  clear h1 h2
  go_wp2_with fail
  refine (l03Add_let s t A C n c p q ds es z g8 M8 (HZO.out HO1.out HO2.out) Hg8.out HM8.out _ (HA.out.below HB_0.out (Nat.le_refl _)) (HC.out.below HB_0.out (Nat.le_refl _)) Hv.out.1 Hv2.out.1 (by omega) (by omega)).mono ?_
  rintro e w8 ⟨v8, rfl, ho, hb⟩
  obtain ⟨A8, c8, rfl⟩ := ho.shape
  have HO8 := Lib.hid ho
  clear ho
  have K_a_1 := Lib.hid (K_a_0.out.after hb)
  have K_b_1 := Lib.hid (K_b_0.out.after hb)
  have K_res_1 := Lib.hid (K_res_0.out.after hb)
  have HB_1 := Lib.hid (HB_0.out.trans (hb.mono HB_0.out.size))
  clear hb
  have K_a_2 := Lib.hid (K_a_1.out.alloc (.cells #[.bool g8, .slice A8 (nats M8).length c8] 30))
  have hne_a_n8 : w.heap.size ≠ w8.heap.size := by have := K_a_1.out.lt; omega
  have hne_n8_a : w8.heap.size ≠ w.heap.size := by have := K_a_1.out.lt; omega
  have K_b_2 := Lib.hid (K_b_1.out.alloc (.cells #[.bool g8, .slice A8 (nats M8).length c8] 30))
  have hne_b_n8 : w.heap.size + 1 ≠ w8.heap.size := by have := K_b_1.out.lt; omega
  have hne_n8_b : w8.heap.size ≠ w.heap.size + 1 := by have := K_b_1.out.lt; omega
  have K_res_2 := Lib.hid (K_res_1.out.alloc (.cells #[.bool g8, .slice A8 (nats M8).length c8] 30))
  have hne_res_n8 : w.heap.size + 1 + 1 ≠ w8.heap.size := by have := K_res_1.out.lt; omega
  have hne_n8_res : w8.heap.size ≠ w.heap.size + 1 + 1 := by have := K_res_1.out.lt; omega
  have K_n8_2 := Lib.hid (HeldL.new w8 [.bool g8, .slice A8 (nats M8).length c8] 30)
  have H_O8_2 := Lib.hid (OwnV.below HO8.out ((Below.refl _ w8).alloc (Nat.le_refl _) (.cells #[.bool g8, .slice A8 (nats M8).length c8] 30)))
  have HB_2 := Lib.hid (HB_1.out.alloc HB_1.out.size (.cells #[.bool g8, .slice A8 (nats M8).length c8] 30))
  go_upto_region 3 with fail
  obtain ⟨w8a, hw8a⟩ : ∃ u, (w8.alloc (.cells #[.bool g8, .slice A8 (nats M8).length c8] 30)) = u := ⟨_, rfl⟩
  rw [hw8a] at K_a_2 K_b_2 K_res_2 K_n8_2 H_O8_2 HB_2 ⊢
  clear hw8a
  have hk_n8_0_2 := K_n8_2.out.cell 0 _ rfl
  have hk_n8_1_2 := K_n8_2.out.cell 1 _ rfl
  go_wp2_with fail
  clear hk_n8_0_2
  clear hk_n8_1_2
  have HR1 := Lib.hid (one_row w8a 3)
  have K_a_3 := Lib.hid (K_a_2.out.alloc (.cells #[.int .i64 1] 3))
  have hne_a_one : w.heap.size ≠ w8a.heap.size := by have := K_a_2.out.lt; omega
  have hne_one_a : w8a.heap.size ≠ w.heap.size := by have := K_a_2.out.lt; omega
  have K_b_3 := Lib.hid (K_b_2.out.alloc (.cells #[.int .i64 1] 3))
  have hne_b_one : w.heap.size + 1 ≠ w8a.heap.size := by have := K_b_2.out.lt; omega
  have hne_one_b : w8a.heap.size ≠ w.heap.size + 1 := by have := K_b_2.out.lt; omega
  have K_res_3 := Lib.hid (K_res_2.out.alloc (.cells #[.int .i64 1] 3))
  have hne_res_one : w.heap.size + 1 + 1 ≠ w8a.heap.size := by have := K_res_2.out.lt; omega
  have hne_one_res : w8a.heap.size ≠ w.heap.size + 1 + 1 := by have := K_res_2.out.lt; omega
  have K_n8_3 := Lib.hid (K_n8_2.out.alloc (.cells #[.int .i64 1] 3))
  have hne_n8_one : w8.heap.size ≠ w8a.heap.size := by have := K_n8_2.out.lt; omega
  have hne_one_n8 : w8a.heap.size ≠ w8.heap.size := by have := K_n8_2.out.lt; omega
  have K_one_3 := Lib.hid (HeldL.new w8a [.int .i64 1] 3)
  have H_O8_3 := Lib.hid (OwnV.below H_O8_2.out ((Below.refl _ w8a).alloc (Nat.le_refl _) (.cells #[.int .i64 1] 3)))
  have HB_3 := Lib.hid (HB_2.out.alloc HB_2.out.size (.cells #[.int .i64 1] 3))
  refine (l04Low_let g8 A8 (nats M8).length c8 M8 _ 1 1 [1] z bv HZ8.out (HBO.out HO1.out HO2.out) _ H_O8_3.out.arg HR1.out HCM8.out.1 (by intro x hx; simp at hx; subst hx; decide) HLM8.out (by decide) RS RN RD HLS.out HLN.out HLD.out).mono ?_
  rintro e w9 ⟨v9n, v9d, rfl, hon, hod, apn, apd, hb⟩
  obtain ⟨A9n, c9n, rfl⟩ := hon.shape
  have HO9n := Lib.hid hon
  have AP_O8_O9n := Lib.hid (OwnV.apart H_O8_3.out hon (Nat.le_refl _))
  have AP_O9n_O8 := Lib.hid (OwnV.apart' hon H_O8_3.out (Nat.le_refl _))
  obtain ⟨A9d, c9d, rfl⟩ := hod.shape
  have HO9d := Lib.hid hod
  have AP_O8_O9d := Lib.hid (OwnV.apart H_O8_3.out hod (Nat.le_refl _))
  have AP_O9d_O8 := Lib.hid (OwnV.apart' hod H_O8_3.out (Nat.le_refl _))
  have AP_O9n_O9d := Lib.hid apn
  have AP_O9d_O9n := Lib.hid apd
  clear hon hod apn apd
  have K_a_4 := Lib.hid (K_a_3.out.after hb)
  have K_b_4 := Lib.hid (K_b_3.out.after hb)
  have K_res_4 := Lib.hid (K_res_3.out.after hb)
  have K_n8_4 := Lib.hid (K_n8_3.out.after hb)
  have K_one_4 := Lib.hid (K_one_3.out.after hb)
  have H_O8_4 := Lib.hid (OwnV.below (w := (w8a.alloc (.cells #[.int .i64 1] 3))) H_O8_3.out hb)
  have HB_4 := Lib.hid (HB_3.out.trans (hb.mono HB_3.out.size))
  clear hb
  have hk_res_0_4 := K_res_4.out.cell 0 _ rfl
  have hk_res_0_4f := K_res_4.out.froz 0 _ rfl
  have hk_res_1_4 := K_res_4.out.cell 1 _ rfl
  have hk_res_1_4f := K_res_4.out.froz 1 _ rfl
  have hk_res_2_4 := K_res_4.out.cell 2 _ rfl
  have hk_res_2_4f := K_res_4.out.froz 2 _ rfl
  go_wp2
  have hr0 := K_res_4.out.cell 0 _ rfl
  have hr1 := K_res_4.out.cell 1 _ rfl
  have hr2 := K_res_4.out.cell 2 _ rfl
  exact bodyPost_ret (v := .agg #[.bool RS, .slice A9n (nats RN).length c9n, .slice A9d (nats RD).length c9d]) (by simp [results, Tryz.results69, go_sem, hr0, hr1, hr2]) rfl (ownRR_close HB_4.out HO9n.out HO9d.out K_res_3.out.lt K_res_3.out.lt (by omega) AP_O9n_O9d.out AP_O9d_O9n.out)
end Go.Proofs.YtdilbhkdkppodaaGreat
