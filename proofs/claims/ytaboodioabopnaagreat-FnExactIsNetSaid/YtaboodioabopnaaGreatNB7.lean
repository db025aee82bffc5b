/- Joined: XRat3done XRat3dtwo XRat3dmix XRat3d XRat3e. Conditions: none. -/
import Derived.Test.YtaboodioabopnaaGreatProg
import Derived.Test.YtaboodioabopnaaGreatNB5
import Derived.Test.YtaboodioabopnaaGreatNB1
import Derived.Deep.DeepCutAuto
import Derived.Test.YtaboodioabopnaaGreatNB4
import Derived.Test.YtaboodioabopnaaGreatNB2
namespace Go.Proofs.YtaboodioabopnaaGreat
open Go.RowKit Nt
set_option linter.unusedVariables false
set_option maxRecDepth 100000 in
set_option maxHeartbeats 4000000 in
theorem l04Add_one (s : Bool) (A : Option Addr) (n c : Nat) (ds : List Nat) (B : Option Addr) (m d : Nat) (bs : List Nat) (t : Bool) (C : Option Addr) (p q : Nat) (es : List Nat) (E : Option Addr) (k l : Nat) (gs : List Nat) (z : Int) (bv : Nat) (hz : signed s (val ds) * (val gs : Int) + signed t (val es) * (val bs : Int) = z) (hbv : val bs * val gs = bv) (w : World) (hA : Arg w A n c (nats ds)) (hB : Arg w B m d (nats bs)) (hv : Valid ds bs) (hC : Arg w C p q (nats es)) (hE : Arg w E k l (nats gs)) (hv2 : Valid es gs) (h1 : isOne bs = true) (h2 : isOne gs = true) :
   Calls Tryz.prog 65 #[.agg #[.bool s, .slice A n c, .slice B m d], .agg #[.bool t, .slice C p q, .slice E k l]] w (OwnRR 3 (loS z bv) (nats (loN z bv)) (nats (loD z bv)) w) := by
 obtain ⟨RS, hRS⟩ : ∃ y9, loS z bv = y9 := ⟨_, rfl⟩
 obtain ⟨RN, hRN⟩ : ∃ y9, loN z bv = y9 := ⟨_, rfl⟩
 obtain ⟨RD, hRD⟩ : ∃ y9, loD z bv = y9 := ⟨_, rfl⟩
 rw [hRS, hRN, hRD]
 have HLS := Lib.hid hRS
 have HLN := Lib.hid hRN
 have HLD := Lib.hid hRD
 clear hRS hRN hRD
 have hn : n ≤ 24 := by have := hA.nlen; have := hv.2.2.1; omega
 have hm : m ≤ 24 := by have := hB.nlen; have := hv.2.2.2.1; omega
 have hp : p ≤ 24 := by have := hC.nlen; have := hv2.2.2.1; omega
 have hk : k ≤ 24 := by have := hE.nlen; have := hv2.2.2.2.1; omega
 have HBZ := Lib.hid (show z.natAbs < 1000000000 ^ 60 by rw [← hz]; exact add_small hv hv2)
 obtain ⟨z1, hz1⟩ : ∃ y9, signed s (val ds) * (val gs : Int) = y9 := ⟨_, rfl⟩
 obtain ⟨z2, hz2⟩ : ∃ y9, signed t (val es) * (val bs : Int) = y9 := ⟨_, rfl⟩
 have HBK1 := Lib.hid (show signed (sgZ z1) (val (magZ z1)) = z1 by rw [← hz1]; exact back_z (one_small hv.1 hv.2.2.1 hv2.2.1 hv2.2.2.2.1))
 have HBK2 := Lib.hid (show signed (sgZ z2) (val (magZ z2)) = z2 by rw [← hz2]; exact back_z (one_small hv2.1 hv2.2.2.1 hv.2.1 hv.2.2.2.1))
 have HZ1 := Lib.hid (show signed s (val (dig (val ds * val gs))) = z1 by rw [val_dig, signed_z]; exact hz1)
 have HZ2 := Lib.hid (show signed t (val (dig (val es * val bs))) = z2 by rw [val_dig, signed_z]; exact hz2)
 have HZO := Lib.hid (show val bs = 1 → val gs = 1 → signed s (val ds) + signed t (val es) = z by intro h1 h2; rw [← hz, h1, h2]; simp)
 have HBO := Lib.hid (show val bs = 1 → val gs = 1 → val [1] = bv by intro h1 h2; rw [← hbv, h1, h2]; rfl)
 obtain ⟨g1, hg1⟩ : ∃ y9, sgZ z1 = y9 := ⟨_, rfl⟩
 obtain ⟨g2, hg2⟩ : ∃ y9, sgZ z2 = y9 := ⟨_, rfl⟩
 obtain ⟨g8, hg8⟩ : ∃ y9, sgZ z = y9 := ⟨_, rfl⟩
 obtain ⟨M1, hM1⟩ : ∃ y9, magZ z1 = y9 := ⟨_, rfl⟩
 obtain ⟨M2, hM2⟩ : ∃ y9, magZ z2 = y9 := ⟨_, rfl⟩
 obtain ⟨M8, hM8⟩ : ∃ y9, magZ z = y9 := ⟨_, rfl⟩
 have HCM1 := Lib.hid (hM1 ▸ magZ_can z1)
 have HCM2 := Lib.hid (hM2 ▸ magZ_can z2)
 have HCM8 := Lib.hid (hM8 ▸ magZ_can z)
 have HLM1 := Lib.hid (show (nats M1).length ≤ 60 by rw [nats_len, ← hM1]; exact capd_len _)
 have HLM2 := Lib.hid (show (nats M2).length ≤ 60 by rw [nats_len, ← hM2]; exact capd_len _)
 have HLM8 := Lib.hid (show (nats M8).length ≤ 60 by rw [nats_len, ← hM8]; exact capd_len _)
 have HSUM := Lib.hid (show signed g1 (val M1) + signed g2 (val M2) = z by rw [← hg1, ← hg2, ← hM1, ← hM2, HBK1.out, HBK2.out, ← hz1, ← hz2]; exact hz)
 have HZ8 := Lib.hid (show signed g8 (val M8) = z by rw [← hg8, ← hM8]; exact back_z HBZ.out)
 have HLB := Lib.hid (mul_len hv.2.1 hv.2.2.2.1 hv2.2.1 hv2.2.2.2.1)
 clear hz hz1 hz2
 have Hg1 := Lib.hid hg1
 have Hg2 := Lib.hid hg2
 have Hg8 := Lib.hid hg8
 have HM1 := Lib.hid hM1
 have HM2 := Lib.hid hM2
 have HM8 := Lib.hid hM8
 clear hg1 hg2 hg8 hM1 hM2 hM8
 have HA := Lib.hid hA
 have HB := Lib.hid hB
 have HC := Lib.hid hC
 have HE := Lib.hid hE
 have Hv := Lib.hid hv
 have Hv2 := Lib.hid hv2
 have Hbv := Lib.hid hbv
 clear hA hB hC hE hv hv2 hbv
 go_enter Tryz.func65, Tryz.ntmps65
 have HB_0 := Lib.hid ((((Below.refl w.heap.size w).alloc (Nat.le_refl _) (.cells #[.bool s, .slice A n c, .slice B m d] 37)).alloc (by simp) (.cells #[.bool t, .slice C p q, .slice E k l] 37)).alloc (by simp; omega) (.cells #[.bool false, .slice none 0 0, .slice none 0 0] 37))
 have K_a_0 := Lib.hid (((HeldL.new_at w (w.heap.size) [.bool s, .slice A n c, .slice B m d] 37 (by first | rfl | simp)).alloc (.cells #[.bool t, .slice C p q, .slice E k l] 37)).alloc (.cells #[.bool false, .slice none 0 0, .slice none 0 0] 37))
 have K_b_0 := Lib.hid ((HeldL.new_at (w.alloc (.cells #[.bool s, .slice A n c, .slice B m d] 37)) (w.heap.size + 1) [.bool t, .slice C p q, .slice E k l] 37 (by first | rfl | simp)).alloc (.cells #[.bool false, .slice none 0 0, .slice none 0 0] 37))
 have K_res_0 := Lib.hid (HeldL.new_at ((w.alloc (.cells #[.bool s, .slice A n c, .slice B m d] 37)).alloc (.cells #[.bool t, .slice C p q, .slice E k l] 37)) (w.heap.size + 1 + 1) [.bool false, .slice none 0 0, .slice none 0 0] 37 (by first | rfl | simp))
 have hne_a_b : w.heap.size ≠ w.heap.size + 1 := by omega
 have hne_a_res : w.heap.size ≠ w.heap.size + 1 + 1 := by omega
 have hne_b_a : w.heap.size + 1 ≠ w.heap.size := by omega
 have hne_b_res : w.heap.size + 1 ≠ w.heap.size + 1 + 1 := by omega
 have hne_res_a : w.heap.size + 1 + 1 ≠ w.heap.size := by omega
 have hne_res_b : w.heap.size + 1 + 1 ≠ w.heap.size + 1 := by omega
 go_wp2_with fail
 refine (l04One_any B m d bs _ (HB.out.below HB_0.out (Nat.le_refl _)).1 HB.out.max).mono ?_
 rintro e w1 ⟨rfl, rfl⟩
 rw [h1]
 go_wp2_with fail
 refine (l04One_any E k l gs _ (HE.out.below HB_0.out (Nat.le_refl _)).1 HE.out.max).mono ?_
 rintro e w1 ⟨rfl, rfl⟩
 rw [h2]
 have HO1 := Lib.hid (show val bs = 1 by rw [isOne_yes h1]; rfl)
 have HO2 := Lib.hid (show val gs = 1 by rw [isOne_yes h2]; rfl)
 clear h1 h2
 go_wp2_with fail
 refine (l03Add_let s t A C n c p q ds es z g8 M8 (HZO.out HO1.out HO2.out) Hg8.out HM8.out _ (HA.out.below HB_0.out (Nat.le_refl _)) (HC.out.below HB_0.out (Nat.le_refl _)) Hv.out.1 Hv2.out.1 (by omega) (by omega)).mono ?_
 rintro e w8 ⟨v8, rfl, ho, hb⟩
 obtain ⟨A8, c8, rfl⟩ := ho.shape
 have HO8 := Lib.hid ho
 clear ho
 have K_a_1 := Lib.hid (K_a_0.out.after hb)
 have K_b_1 := Lib.hid (K_b_0.out.after hb)
 have K_res_1 := Lib.hid (K_res_0.out.after hb)
 have HB_1 := Lib.hid (HB_0.out.trans (hb.mono HB_0.out.size))
 clear hb
 have K_a_2 := Lib.hid (K_a_1.out.alloc (.cells #[.bool g8, .slice A8 (nats M8).length c8] 35))
 have hne_a_n8 : w.heap.size ≠ w8.heap.size := by have := K_a_1.out.lt; omega
 have hne_n8_a : w8.heap.size ≠ w.heap.size := by have := K_a_1.out.lt; omega
 have K_b_2 := Lib.hid (K_b_1.out.alloc (.cells #[.bool g8, .slice A8 (nats M8).length c8] 35))
 have hne_b_n8 : w.heap.size + 1 ≠ w8.heap.size := by have := K_b_1.out.lt; omega
 have hne_n8_b : w8.heap.size ≠ w.heap.size + 1 := by have := K_b_1.out.lt; omega
 have K_res_2 := Lib.hid (K_res_1.out.alloc (.cells #[.bool g8, .slice A8 (nats M8).length c8] 35))
 have hne_res_n8 : w.heap.size + 1 + 1 ≠ w8.heap.size := by have := K_res_1.out.lt; omega
 have hne_n8_res : w8.heap.size ≠ w.heap.size + 1 + 1 := by have := K_res_1.out.lt; omega
 have K_n8_2 := Lib.hid (HeldL.new w8 [.bool g8, .slice A8 (nats M8).length c8] 35)
 have H_O8_2 := Lib.hid (OwnV.below HO8.out ((Below.refl _ w8).alloc (Nat.le_refl _) (.cells #[.bool g8, .slice A8 (nats M8).length c8] 35)))
 have HB_2 := Lib.hid (HB_1.out.alloc HB_1.out.size (.cells #[.bool g8, .slice A8 (nats M8).length c8] 35))
 go_upto_region 3 with fail
 obtain ⟨w8a, hw8a⟩ : ∃ u, (w8.alloc (.cells #[.bool g8, .slice A8 (nats M8).length c8] 35)) = u := ⟨_, rfl⟩
 rw [hw8a] at K_a_2 K_b_2 K_res_2 K_n8_2 H_O8_2 HB_2 ⊢
 clear hw8a
 have hk_n8_0_2 := K_n8_2.out.cell 0 _ rfl
 have hk_n8_1_2 := K_n8_2.out.cell 1 _ rfl
 go_wp2_with fail
 clear hk_n8_0_2
 clear hk_n8_1_2
 have HR1 := Lib.hid (one_row w8a 3)
 have K_a_3 := Lib.hid (K_a_2.out.alloc (.cells #[.int .i64 1] 3))
 have hne_a_one : w.heap.size ≠ w8a.heap.size := by have := K_a_2.out.lt; omega
 have hne_one_a : w8a.heap.size ≠ w.heap.size := by have := K_a_2.out.lt; omega
 have K_b_3 := Lib.hid (K_b_2.out.alloc (.cells #[.int .i64 1] 3))
 have hne_b_one : w.heap.size + 1 ≠ w8a.heap.size := by have := K_b_2.out.lt; omega
 have hne_one_b : w8a.heap.size ≠ w.heap.size + 1 := by have := K_b_2.out.lt; omega
 have K_res_3 := Lib.hid (K_res_2.out.alloc (.cells #[.int .i64 1] 3))
 have hne_res_one : w.heap.size + 1 + 1 ≠ w8a.heap.size := by have := K_res_2.out.lt; omega
 have hne_one_res : w8a.heap.size ≠ w.heap.size + 1 + 1 := by have := K_res_2.out.lt; omega
 have K_n8_3 := Lib.hid (K_n8_2.out.alloc (.cells #[.int .i64 1] 3))
 have hne_n8_one : w8.heap.size ≠ w8a.heap.size := by have := K_n8_2.out.lt; omega
 have hne_one_n8 : w8a.heap.size ≠ w8.heap.size := by have := K_n8_2.out.lt; omega
 have K_one_3 := Lib.hid (HeldL.new w8a [.int .i64 1] 3)
 have H_O8_3 := Lib.hid (OwnV.below H_O8_2.out ((Below.refl _ w8a).alloc (Nat.le_refl _) (.cells #[.int .i64 1] 3)))
 have HB_3 := Lib.hid (HB_2.out.alloc HB_2.out.size (.cells #[.int .i64 1] 3))
 refine (l04Low_let g8 A8 (nats M8).length c8 M8 _ 1 1 [1] z bv HZ8.out (HBO.out HO1.out HO2.out) _ H_O8_3.out.arg HR1.out HCM8.out.1 (by intro x hx; simp at hx; subst hx; decide) HLM8.out (by decide) RS RN RD HLS.out HLN.out HLD.out).mono ?_
 rintro e w9 ⟨v9n, v9d, rfl, hon, hod, apn, apd, hb⟩
 obtain ⟨A9n, c9n, rfl⟩ := hon.shape
 have HO9n := Lib.hid hon
 have AP_O8_O9n := Lib.hid (OwnV.apart H_O8_3.out hon (Nat.le_refl _))
 have AP_O9n_O8 := Lib.hid (OwnV.apart' hon H_O8_3.out (Nat.le_refl _))
 obtain ⟨A9d, c9d, rfl⟩ := hod.shape
 have HO9d := Lib.hid hod
 have AP_O8_O9d := Lib.hid (OwnV.apart H_O8_3.out hod (Nat.le_refl _))
 have AP_O9d_O8 := Lib.hid (OwnV.apart' hod H_O8_3.out (Nat.le_refl _))
 have AP_O9n_O9d := Lib.hid apn
 have AP_O9d_O9n := Lib.hid apd
 clear hon hod apn apd
 have K_a_4 := Lib.hid (K_a_3.out.after hb)
 have K_b_4 := Lib.hid (K_b_3.out.after hb)
 have K_res_4 := Lib.hid (K_res_3.out.after hb)
 have K_n8_4 := Lib.hid (K_n8_3.out.after hb)
 have K_one_4 := Lib.hid (K_one_3.out.after hb)
 have H_O8_4 := Lib.hid (OwnV.below (w := (w8a.alloc (.cells #[.int .i64 1] 3))) H_O8_3.out hb)
 have HB_4 := Lib.hid (HB_3.out.trans (hb.mono HB_3.out.size))
 clear hb
 have hk_res_0_4 := K_res_4.out.cell 0 _ rfl
 have hk_res_0_4f := K_res_4.out.froz 0 _ rfl
 have hk_res_1_4 := K_res_4.out.cell 1 _ rfl
 have hk_res_1_4f := K_res_4.out.froz 1 _ rfl
 have hk_res_2_4 := K_res_4.out.cell 2 _ rfl
 have hk_res_2_4f := K_res_4.out.froz 2 _ rfl
 go_wp2
 have hr0 := K_res_4.out.cell 0 _ rfl
 have hr1 := K_res_4.out.cell 1 _ rfl
 have hr2 := K_res_4.out.cell 2 _ rfl
 exact bodyPost_ret (v := .agg #[.bool RS, .slice A9n (nats RN).length c9n, .slice A9d (nats RD).length c9d]) (by simp [results, Tryz.results65, go_sem, hr0, hr1, hr2]) rfl (ownRR_close HB_4.out HO9n.out HO9d.out K_res_3.out.lt K_res_3.out.lt (by omega) AP_O9n_O9d.out AP_O9d_O9n.out)
end Go.Proofs.YtaboodioabopnaaGreat
namespace Go.Proofs.YtaboodioabopnaaGreat
open Go.RowKit Nt
set_option linter.unusedVariables false
set_option maxRecDepth 100000 in
set_option maxHeartbeats 4000000 in
theorem l04Add_two (s : Bool) (A : Option Addr) (n c : Nat) (ds : List Nat) (B : Option Addr) (m d : Nat) (bs : List Nat) (t : Bool) (C : Option Addr) (p q : Nat) (es : List Nat) (E : Option Addr) (k l : Nat) (gs : List Nat) (z : Int) (bv : Nat) (hz : signed s (val ds) * (val gs : Int) + signed t (val es) * (val bs : Int) = z) (hbv : val bs * val gs = bv) (w : World) (hA : Arg w A n c (nats ds)) (hB : Arg w B m d (nats bs)) (hv : Valid ds bs) (hC : Arg w C p q (nats es)) (hE : Arg w E k l (nats gs)) (hv2 : Valid es gs) (h1 : isOne bs = false) :
   Calls Tryz.prog 65 #[.agg #[.bool s, .slice A n c, .slice B m d], .agg #[.bool t, .slice C p q, .slice E k l]] w (OwnRR 3 (loS z bv) (nats (loN z bv)) (nats (loD z bv)) w) := by
 obtain ⟨RS, hRS⟩ : ∃ y9, loS z bv = y9 := ⟨_, rfl⟩
 obtain ⟨RN, hRN⟩ : ∃ y9, loN z bv = y9 := ⟨_, rfl⟩
 obtain ⟨RD, hRD⟩ : ∃ y9, loD z bv = y9 := ⟨_, rfl⟩
 rw [hRS, hRN, hRD]
 have HLS := Lib.hid hRS
 have HLN := Lib.hid hRN
 have HLD := Lib.hid hRD
 clear hRS hRN hRD
 have hn : n ≤ 24 := by have := hA.nlen; have := hv.2.2.1; omega
 have hm : m ≤ 24 := by have := hB.nlen; have := hv.2.2.2.1; omega
 have hp : p ≤ 24 := by have := hC.nlen; have := hv2.2.2.1; omega
 have hk : k ≤ 24 := by have := hE.nlen; have := hv2.2.2.2.1; omega
 have HBZ := Lib.hid (show z.natAbs < 1000000000 ^ 60 by rw [← hz]; exact add_small hv hv2)
 obtain ⟨z1, hz1⟩ : ∃ y9, signed s (val ds) * (val gs : Int) = y9 := ⟨_, rfl⟩
 obtain ⟨z2, hz2⟩ : ∃ y9, signed t (val es) * (val bs : Int) = y9 := ⟨_, rfl⟩
 have HBK1 := Lib.hid (show signed (sgZ z1) (val (magZ z1)) = z1 by rw [← hz1]; exact back_z (one_small hv.1 hv.2.2.1 hv2.2.1 hv2.2.2.2.1))
 have HBK2 := Lib.hid (show signed (sgZ z2) (val (magZ z2)) = z2 by rw [← hz2]; exact back_z (one_small hv2.1 hv2.2.2.1 hv.2.1 hv.2.2.2.1))
 have HZ1 := Lib.hid (show signed s (val (dig (val ds * val gs))) = z1 by rw [val_dig, signed_z]; exact hz1)
 have HZ2 := Lib.hid (show signed t (val (dig (val es * val bs))) = z2 by rw [val_dig, signed_z]; exact hz2)
 have HZO := Lib.hid (show val bs = 1 → val gs = 1 → signed s (val ds) + signed t (val es) = z by intro h1 h2; rw [← hz, h1, h2]; simp)
 have HBO := Lib.hid (show val bs = 1 → val gs = 1 → val [1] = bv by intro h1 h2; rw [← hbv, h1, h2]; rfl)
 obtain ⟨g1, hg1⟩ : ∃ y9, sgZ z1 = y9 := ⟨_, rfl⟩
 obtain ⟨g2, hg2⟩ : ∃ y9, sgZ z2 = y9 := ⟨_, rfl⟩
 obtain ⟨g8, hg8⟩ : ∃ y9, sgZ z = y9 := ⟨_, rfl⟩
 obtain ⟨M1, hM1⟩ : ∃ y9, magZ z1 = y9 := ⟨_, rfl⟩
 obtain ⟨M2, hM2⟩ : ∃ y9, magZ z2 = y9 := ⟨_, rfl⟩
 obtain ⟨M8, hM8⟩ : ∃ y9, magZ z = y9 := ⟨_, rfl⟩
 have HCM1 := Lib.hid (hM1 ▸ magZ_can z1)
 have HCM2 := Lib.hid (hM2 ▸ magZ_can z2)
 have HCM8 := Lib.hid (hM8 ▸ magZ_can z)
 have HLM1 := Lib.hid (show (nats M1).length ≤ 60 by rw [nats_len, ← hM1]; exact capd_len _)
 have HLM2 := Lib.hid (show (nats M2).length ≤ 60 by rw [nats_len, ← hM2]; exact capd_len _)
 have HLM8 := Lib.hid (show (nats M8).length ≤ 60 by rw [nats_len, ← hM8]; exact capd_len _)
 have HSUM := Lib.hid (show signed g1 (val M1) + signed g2 (val M2) = z by rw [← hg1, ← hg2, ← hM1, ← hM2, HBK1.out, HBK2.out, ← hz1, ← hz2]; exact hz)
 have HZ8 := Lib.hid (show signed g8 (val M8) = z by rw [← hg8, ← hM8]; exact back_z HBZ.out)
 have HLB := Lib.hid (mul_len hv.2.1 hv.2.2.2.1 hv2.2.1 hv2.2.2.2.1)
 clear hz hz1 hz2
 have Hg1 := Lib.hid hg1
 have Hg2 := Lib.hid hg2
 have Hg8 := Lib.hid hg8
 have HM1 := Lib.hid hM1
 have HM2 := Lib.hid hM2
 have HM8 := Lib.hid hM8
 clear hg1 hg2 hg8 hM1 hM2 hM8
 have HA := Lib.hid hA
 have HB := Lib.hid hB
 have HC := Lib.hid hC
 have HE := Lib.hid hE
 have Hv := Lib.hid hv
 have Hv2 := Lib.hid hv2
 have Hbv := Lib.hid hbv
 clear hA hB hC hE hv hv2 hbv
 go_enter Tryz.func65, Tryz.ntmps65
 have HB_0 := Lib.hid ((((Below.refl w.heap.size w).alloc (Nat.le_refl _) (.cells #[.bool s, .slice A n c, .slice B m d] 37)).alloc (by simp) (.cells #[.bool t, .slice C p q, .slice E k l] 37)).alloc (by simp; omega) (.cells #[.bool false, .slice none 0 0, .slice none 0 0] 37))
 have K_a_0 := Lib.hid (((HeldL.new_at w (w.heap.size) [.bool s, .slice A n c, .slice B m d] 37 (by first | rfl | simp)).alloc (.cells #[.bool t, .slice C p q, .slice E k l] 37)).alloc (.cells #[.bool false, .slice none 0 0, .slice none 0 0] 37))
 have K_b_0 := Lib.hid ((HeldL.new_at (w.alloc (.cells #[.bool s, .slice A n c, .slice B m d] 37)) (w.heap.size + 1) [.bool t, .slice C p q, .slice E k l] 37 (by first | rfl | simp)).alloc (.cells #[.bool false, .slice none 0 0, .slice none 0 0] 37))
 have K_res_0 := Lib.hid (HeldL.new_at ((w.alloc (.cells #[.bool s, .slice A n c, .slice B m d] 37)).alloc (.cells #[.bool t, .slice C p q, .slice E k l] 37)) (w.heap.size + 1 + 1) [.bool false, .slice none 0 0, .slice none 0 0] 37 (by first | rfl | simp))
 have hne_a_b : w.heap.size ≠ w.heap.size + 1 := by omega
 have hne_a_res : w.heap.size ≠ w.heap.size + 1 + 1 := by omega
 have hne_b_a : w.heap.size + 1 ≠ w.heap.size := by omega
 have hne_b_res : w.heap.size + 1 ≠ w.heap.size + 1 + 1 := by omega
 have hne_res_a : w.heap.size + 1 + 1 ≠ w.heap.size := by omega
 have hne_res_b : w.heap.size + 1 + 1 ≠ w.heap.size + 1 := by omega
 go_wp2_with fail
 refine (l04One_any B m d bs _ (HB.out.below HB_0.out (Nat.le_refl _)).1 HB.out.max).mono ?_
 rintro e w1 ⟨rfl, rfl⟩
 rw [h1]
 clear h1
 obtain ⟨w4, hw4⟩ : ∃ u, (((w.alloc (.cells #[.bool s, .slice A n c, .slice B m d] 37)).alloc (.cells #[.bool t, .slice C p q, .slice E k l] 37)).alloc (.cells #[.bool false, .slice none 0 0, .slice none 0 0] 37)) = u := ⟨_, rfl⟩
 rw [hw4] at K_a_0 K_b_0 K_res_0 HB_0 ⊢
 clear hw4
 have hk_a_0_0 := K_a_0.out.cell 0 _ rfl
 have hk_a_1_0 := K_a_0.out.cell 1 _ rfl
 have hk_a_2_0 := K_a_0.out.cell 2 _ rfl
 have hk_b_0_0 := K_b_0.out.cell 0 _ rfl
 have hk_b_1_0 := K_b_0.out.cell 1 _ rfl
 have hk_b_2_0 := K_b_0.out.cell 2 _ rfl
 go_upto_region 4 with fail
 go_cut [6] (fun ptr wx => ∃ b A1 c1, ptr = .pointer (some ⟨b, 0, none⟩) ∧ HeldL wx b [.bool g1, .slice A1 (nats M1).length c1] ∧ OwnV wx w.heap.size 3 (.slice A1 (nats M1).length c1) (nats M1) ∧ HeldL wx (w.heap.size) [.bool s, .slice A n c, .slice B m d] ∧ HeldL wx (w.heap.size + 1) [.bool t, .slice C p q, .slice E k l] ∧ HeldL wx (w.heap.size + 1 + 1) [.bool false, .slice none 0 0, .slice none 0 0] ∧ Below w.heap.size w wx)
 case first =>
   go_region_held3 (fun w' => w'.cell? ⟨w.heap.size, 0, none⟩ = some (.bool s) ∧ w'.cell? ⟨w.heap.size, 1, none⟩ = some (.slice A n c) ∧ w'.cell? ⟨w.heap.size, 2, none⟩ = some (.slice B m d) ∧ w'.cell? ⟨w.heap.size + 1, 0, none⟩ = some (.bool t) ∧ w'.cell? ⟨w.heap.size + 1, 1, none⟩ = some (.slice C p q) ∧ w'.cell? ⟨w.heap.size + 1, 2, none⟩ = some (.slice E k l)) (go_keep)
     (first
       | (go_at_call 102
          refine (l02Mul_any A E n c k l ds gs _ ?_ ?_ Hv.out.1.1 Hv2.out.2.1.1 ?_).mono ?_
          first | exact (HA.out.below HB_0.out.drew (Nat.le_refl _)).1 | exact (HA.out.below (HB_0.out.alloc HB_0.out.size (.cells #[.bool false, .slice none 0 0] 35)).drew (Nat.le_refl _)).1
          first | exact (HE.out.below HB_0.out.drew (Nat.le_refl _)).1 | exact (HE.out.below (HB_0.out.alloc HB_0.out.size (.cells #[.bool false, .slice none 0 0] 35)).drew (Nat.le_refl _)).1
          omega
          rintro e u1 ⟨vm1, rfl, ho, hb⟩
          obtain ⟨Am1, cm1, rfl⟩ := ho.shape
          first | (have KN1 := Lib.hid ((HeldL.new w4 [.bool false, .slice none 0 0] 35).drew.after hb); have HLN1 := Lib.hid (HeldL.new w4 [.bool false, .slice none 0 0] 35).lt; have HGN := Lib.hid HB_0.out.size; have NE_a := Lib.hid (Nat.ne_of_lt K_a_0.out.lt); have NE_b := Lib.hid (Nat.ne_of_lt K_b_0.out.lt); have NE_res := Lib.hid (Nat.ne_of_lt K_res_0.out.lt)) | skip
          have T9 : HeldL u1 (w.heap.size) [.bool s, .slice A n c, .slice B m d] := by first | exact K_a_0.out.drew.after hb | exact (K_a_0.out.alloc (.cells #[.bool false, .slice none 0 0] 35)).drew.after hb
          have KK_a_1 := Lib.hid T9
          clear T9
          have T9 : HeldL u1 (w.heap.size + 1) [.bool t, .slice C p q, .slice E k l] := by first | exact K_b_0.out.drew.after hb | exact (K_b_0.out.alloc (.cells #[.bool false, .slice none 0 0] 35)).drew.after hb
          have KK_b_1 := Lib.hid T9
          clear T9
          have T9 : HeldL u1 (w.heap.size + 1 + 1) [.bool false, .slice none 0 0, .slice none 0 0] := by first | exact K_res_0.out.drew.after hb | exact (K_res_0.out.alloc (.cells #[.bool false, .slice none 0 0] 35)).drew.after hb
          have KK_res_1 := Lib.hid T9
          clear T9
          have T9 : OwnV u1 w.heap.size 3 (.slice Am1 (nats (dig (val ds * val gs))).length cm1) (nats (dig (val ds * val gs))) := by first | exact ho.based HB_0.out.drew.size | exact ho.based (HB_0.out.alloc HB_0.out.size (.cells #[.bool false, .slice none 0 0] 35)).drew.size
          have HH_Om1_1 := Lib.hid T9
          clear T9 ho
          have T9 : Below w.heap.size w u1 := by first | exact (HB_0.out.drew).trans (hb.mono (HB_0.out.drew).size) | exact ((HB_0.out.alloc HB_0.out.size (.cells #[.bool false, .slice none 0 0] 35)).drew).trans (hb.mono ((HB_0.out.alloc HB_0.out.size (.cells #[.bool false, .slice none 0 0] 35)).drew).size)
          have HHB_1 := Lib.hid T9
          clear T9 hb
          have hk_a_0_1 := KK_a_1.out.cell 0 _ rfl
          have hk_a_1_1 := KK_a_1.out.cell 1 _ rfl
          have hk_a_2_1 := KK_a_1.out.cell 2 _ rfl
          have hk_b_0_1 := KK_b_1.out.cell 0 _ rfl
          have hk_b_1_1 := KK_b_1.out.cell 1 _ rfl
          have hk_b_2_1 := KK_b_1.out.cell 2 _ rfl)
       | (go_at_call 98
          refine (l03Make_let s Am1 _ cm1 (dig (val ds * val gs)) z1 g1 M1 HZ1.out Hg1.out HM1.out _ ?_ (dig_can _).1).mono ?_
          first | exact (HH_Om1_1.out).arg | exact (OwnV.below HH_Om1_1.out ((Below.refl _ u1).alloc (Nat.le_refl _) (.cells #[.bool false, .slice none 0 0] 35))).arg
          rintro e u2 ⟨v1, rfl, ho, hb⟩
          obtain ⟨A1, c1, rfl⟩ := ho.shape
          first | (have KN2 := Lib.hid (KN1.out.after hb); have HLN2 := Lib.hid KN1.out.lt) | (have KN2 := Lib.hid ((HeldL.new u1 [.bool false, .slice none 0 0] 35).after hb); have HLN2 := Lib.hid (HeldL.new u1 [.bool false, .slice none 0 0] 35).lt; have HGN := Lib.hid HHB_1.out.size; have NE_a := Lib.hid (Nat.ne_of_lt KK_a_1.out.lt); have NE_b := Lib.hid (Nat.ne_of_lt KK_b_1.out.lt); have NE_res := Lib.hid (Nat.ne_of_lt KK_res_1.out.lt)) | skip
          have T9 : HeldL u2 (w.heap.size) [.bool s, .slice A n c, .slice B m d] := by first | exact KK_a_1.out.after hb | exact (KK_a_1.out.alloc (.cells #[.bool false, .slice none 0 0] 35)).after hb
          have KK_a_2 := Lib.hid T9
          clear T9
          have T9 : HeldL u2 (w.heap.size + 1) [.bool t, .slice C p q, .slice E k l] := by first | exact KK_b_1.out.after hb | exact (KK_b_1.out.alloc (.cells #[.bool false, .slice none 0 0] 35)).after hb
          have KK_b_2 := Lib.hid T9
          clear T9
          have T9 : HeldL u2 (w.heap.size + 1 + 1) [.bool false, .slice none 0 0, .slice none 0 0] := by first | exact KK_res_1.out.after hb | exact (KK_res_1.out.alloc (.cells #[.bool false, .slice none 0 0] 35)).after hb
          have KK_res_2 := Lib.hid T9
          clear T9
          have T9 : OwnV u2 w.heap.size 3 (.slice Am1 (nats (dig (val ds * val gs))).length cm1) (nats (dig (val ds * val gs))) := by first | exact OwnV.below (w := u1) HH_Om1_1.out hb | exact OwnV.below (w := (u1.alloc (.cells #[.bool false, .slice none 0 0] 35))) (OwnV.below HH_Om1_1.out ((Below.refl _ u1).alloc (Nat.le_refl _) (.cells #[.bool false, .slice none 0 0] 35))) hb
          have HH_Om1_2 := Lib.hid T9
          clear T9
          have HOn := Lib.hid ho
          have T9 : OwnV u2 w.heap.size 3 (.slice A1 (nats M1).length c1) (nats M1) := by first | exact ho.based HHB_1.out.size | exact ho.based (HHB_1.out.alloc HHB_1.out.size (.cells #[.bool false, .slice none 0 0] 35)).size
          have HH_O1_2 := Lib.hid T9
          clear T9 ho
          have T9 : Below w.heap.size w u2 := by first | exact (HHB_1.out).trans (hb.mono (HHB_1.out).size) | exact ((HHB_1.out.alloc HHB_1.out.size (.cells #[.bool false, .slice none 0 0] 35))).trans (hb.mono ((HHB_1.out.alloc HHB_1.out.size (.cells #[.bool false, .slice none 0 0] 35))).size)
          have HHB_2 := Lib.hid T9
          clear T9 hb
          have hk_a_0_2 := KK_a_2.out.cell 0 _ rfl
          have hk_a_1_2 := KK_a_2.out.cell 1 _ rfl
          have hk_a_2_2 := KK_a_2.out.cell 2 _ rfl
          have hk_b_0_2 := KK_b_2.out.cell 0 _ rfl
          have hk_b_1_2 := KK_b_2.out.cell 1 _ rfl
          have hk_b_2_2 := KK_b_2.out.cell 2 _ rfl
          try have hkn0 := KN2.out.cell 0 _ rfl
          try have hkf0 := KN2.out.froz 0 _ rfl
          try have hkn1 := KN2.out.cell 1 _ rfl
          try have hkf1 := KN2.out.froz 1 _ rfl
          try have hne_a := NE_a.out
          try have hnf_a := NE_a.out.symm
          try have hne_b := NE_b.out
          try have hnf_b := NE_b.out.symm))
   all_goals go_wp2_with fail
   all_goals go_meet
   all_goals refine ⟨_, A1, c1, rfl, ?_, ?_, ?_, ?_, ?_, ?_⟩
   all_goals first
     | exact HeldL.new u2 _ _
     | exact ((KN2.out.set 0 _ _ rfl).set 1 _ _ rfl)
     | exact OwnV.below HH_O1_2.out ((Below.refl _ u2).alloc (Nat.le_refl _) _)
     | exact ((HOn.out.setBelow HLN2.out _).setBelow HLN2.out _).based (Nat.le_trans HGN.out (Nat.le_of_lt HLN2.out))
     | exact KK_a_2.out.alloc _
     | exact ((KK_a_2.out.setOther NE_a.out _).setOther NE_a.out _)
     | exact KK_b_2.out.alloc _
     | exact ((KK_b_2.out.setOther NE_b.out _).setOther NE_b.out _)
     | exact KK_res_2.out.alloc _
     | exact ((KK_res_2.out.setOther NE_res.out _).setOther NE_res.out _)
     | exact HHB_2.out.alloc HHB_2.out.size _
     | exact ((HHB_2.out.setCell HGN.out _).setCell HGN.out _)
 clear hk_a_0_0
 clear hk_a_1_0
 clear hk_a_2_0
 clear hk_b_0_0
 clear hk_b_1_0
 clear hk_b_2_0
 clear K_a_0
 clear K_b_0
 clear K_res_0
 clear HB_0
 obtain ⟨b_n1, A1, c1, rfl, hkn, hon, hq_a, hq_b, hq_res, hbw⟩ := hcut
 have K_a_1 := Lib.hid hq_a
 clear hq_a
 have K_b_1 := Lib.hid hq_b
 clear hq_b
 have K_res_1 := Lib.hid hq_res
 clear hq_res
 have K_n1_1 := Lib.hid hkn
 clear hkn
 have H_O1_1 := Lib.hid hon
 clear hon
 have HB_1 := Lib.hid hbw
 clear hbw
 have hk_a_0_1 := K_a_1.out.cell 0 _ rfl
 have hk_a_1_1 := K_a_1.out.cell 1 _ rfl
 have hk_a_2_1 := K_a_1.out.cell 2 _ rfl
 have hk_b_0_1 := K_b_1.out.cell 0 _ rfl
 have hk_b_1_1 := K_b_1.out.cell 1 _ rfl
 have hk_b_2_1 := K_b_1.out.cell 2 _ rfl
 go_upto_region 5 with fail
 go_cut [7] (fun ptr wx => ∃ b A2 c2, ptr = .pointer (some ⟨b, 0, none⟩) ∧ HeldL wx b [.bool g2, .slice A2 (nats M2).length c2] ∧ OwnV wx w.heap.size 3 (.slice A2 (nats M2).length c2) (nats M2) ∧ HeldL wx (w.heap.size) [.bool s, .slice A n c, .slice B m d] ∧ HeldL wx (w.heap.size + 1) [.bool t, .slice C p q, .slice E k l] ∧ HeldL wx (w.heap.size + 1 + 1) [.bool false, .slice none 0 0, .slice none 0 0] ∧ HeldL wx (b_n1) [.bool g1, .slice A1 (nats M1).length c1] ∧ OwnV wx w.heap.size 3 (.slice A1 (nats M1).length c1) (nats M1) ∧ Below w.heap.size w wx)
 case first =>
   go_region_held3 (fun w' => w'.cell? ⟨w.heap.size, 0, none⟩ = some (.bool s) ∧ w'.cell? ⟨w.heap.size, 1, none⟩ = some (.slice A n c) ∧ w'.cell? ⟨w.heap.size, 2, none⟩ = some (.slice B m d) ∧ w'.cell? ⟨w.heap.size + 1, 0, none⟩ = some (.bool t) ∧ w'.cell? ⟨w.heap.size + 1, 1, none⟩ = some (.slice C p q) ∧ w'.cell? ⟨w.heap.size + 1, 2, none⟩ = some (.slice E k l)) (go_keep)
     (first
       | (go_at_call 102
          refine (l02Mul_any C B p q m d es bs _ ?_ ?_ Hv2.out.1.1 Hv.out.2.1.1 ?_).mono ?_
          first | exact (HC.out.below HB_1.out.drew (Nat.le_refl _)).1 | exact (HC.out.below (HB_1.out.alloc HB_1.out.size (.cells #[.bool false, .slice none 0 0] 35)).drew (Nat.le_refl _)).1
          first | exact (HB.out.below HB_1.out.drew (Nat.le_refl _)).1 | exact (HB.out.below (HB_1.out.alloc HB_1.out.size (.cells #[.bool false, .slice none 0 0] 35)).drew (Nat.le_refl _)).1
          omega
          rintro e u1 ⟨vm2, rfl, ho, hb⟩
          obtain ⟨Am2, cm2, rfl⟩ := ho.shape
          first | (have KN1 := Lib.hid ((HeldL.new wc [.bool false, .slice none 0 0] 35).drew.after hb); have HLN1 := Lib.hid (HeldL.new wc [.bool false, .slice none 0 0] 35).lt; have HGN := Lib.hid HB_1.out.size; have NE_a := Lib.hid (Nat.ne_of_lt K_a_1.out.lt); have NE_b := Lib.hid (Nat.ne_of_lt K_b_1.out.lt); have NE_res := Lib.hid (Nat.ne_of_lt K_res_1.out.lt); have NE_n1 := Lib.hid (Nat.ne_of_lt K_n1_1.out.lt); have NB_O1 := Lib.hid (OwnV.bn_new H_O1_1.out)) | skip
          have T9 : HeldL u1 (w.heap.size) [.bool s, .slice A n c, .slice B m d] := by first | exact K_a_1.out.drew.after hb | exact (K_a_1.out.alloc (.cells #[.bool false, .slice none 0 0] 35)).drew.after hb
          have KK_a_1 := Lib.hid T9
          clear T9
          have T9 : HeldL u1 (w.heap.size + 1) [.bool t, .slice C p q, .slice E k l] := by first | exact K_b_1.out.drew.after hb | exact (K_b_1.out.alloc (.cells #[.bool false, .slice none 0 0] 35)).drew.after hb
          have KK_b_1 := Lib.hid T9
          clear T9
          have T9 : HeldL u1 (w.heap.size + 1 + 1) [.bool false, .slice none 0 0, .slice none 0 0] := by first | exact K_res_1.out.drew.after hb | exact (K_res_1.out.alloc (.cells #[.bool false, .slice none 0 0] 35)).drew.after hb
          have KK_res_1 := Lib.hid T9
          clear T9
          have T9 : HeldL u1 (b_n1) [.bool g1, .slice A1 (nats M1).length c1] := by first | exact K_n1_1.out.drew.after hb | exact (K_n1_1.out.alloc (.cells #[.bool false, .slice none 0 0] 35)).drew.after hb
          have KK_n1_1 := Lib.hid T9
          clear T9
          have T9 : OwnV u1 w.heap.size 3 (.slice A1 (nats M1).length c1) (nats M1) := by first | exact OwnV.below (w := wc.drew) H_O1_1.out hb | exact OwnV.below (w := (wc.alloc (.cells #[.bool false, .slice none 0 0] 35)).drew) (OwnV.below H_O1_1.out ((Below.refl _ wc).alloc (Nat.le_refl _) (.cells #[.bool false, .slice none 0 0] 35)).drew) hb
          have HH_O1_1 := Lib.hid T9
          clear T9
          have T9 : OwnV u1 w.heap.size 3 (.slice Am2 (nats (dig (val es * val bs))).length cm2) (nats (dig (val es * val bs))) := by first | exact ho.based HB_1.out.drew.size | exact ho.based (HB_1.out.alloc HB_1.out.size (.cells #[.bool false, .slice none 0 0] 35)).drew.size
          have HH_Om2_1 := Lib.hid T9
          clear T9 ho
          have T9 : Below w.heap.size w u1 := by first | exact (HB_1.out.drew).trans (hb.mono (HB_1.out.drew).size) | exact ((HB_1.out.alloc HB_1.out.size (.cells #[.bool false, .slice none 0 0] 35)).drew).trans (hb.mono ((HB_1.out.alloc HB_1.out.size (.cells #[.bool false, .slice none 0 0] 35)).drew).size)
          have HHB_1 := Lib.hid T9
          clear T9 hb
          have hk_a_0_1 := KK_a_1.out.cell 0 _ rfl
          have hk_a_1_1 := KK_a_1.out.cell 1 _ rfl
          have hk_a_2_1 := KK_a_1.out.cell 2 _ rfl
          have hk_b_0_1 := KK_b_1.out.cell 0 _ rfl
          have hk_b_1_1 := KK_b_1.out.cell 1 _ rfl
          have hk_b_2_1 := KK_b_1.out.cell 2 _ rfl)
       | (go_at_call 98
          refine (l03Make_let t Am2 _ cm2 (dig (val es * val bs)) z2 g2 M2 HZ2.out Hg2.out HM2.out _ ?_ (dig_can _).1).mono ?_
          first | exact (HH_Om2_1.out).arg | exact (OwnV.below HH_Om2_1.out ((Below.refl _ u1).alloc (Nat.le_refl _) (.cells #[.bool false, .slice none 0 0] 35))).arg
          rintro e u2 ⟨v2, rfl, ho, hb⟩
          obtain ⟨A2, c2, rfl⟩ := ho.shape
          first | (have KN2 := Lib.hid (KN1.out.after hb); have HLN2 := Lib.hid KN1.out.lt) | (have KN2 := Lib.hid ((HeldL.new u1 [.bool false, .slice none 0 0] 35).after hb); have HLN2 := Lib.hid (HeldL.new u1 [.bool false, .slice none 0 0] 35).lt; have HGN := Lib.hid HHB_1.out.size; have NE_a := Lib.hid (Nat.ne_of_lt KK_a_1.out.lt); have NE_b := Lib.hid (Nat.ne_of_lt KK_b_1.out.lt); have NE_res := Lib.hid (Nat.ne_of_lt KK_res_1.out.lt); have NE_n1 := Lib.hid (Nat.ne_of_lt KK_n1_1.out.lt); have NB_O1 := Lib.hid (OwnV.bn_new HH_O1_1.out)) | skip
          have T9 : HeldL u2 (w.heap.size) [.bool s, .slice A n c, .slice B m d] := by first | exact KK_a_1.out.after hb | exact (KK_a_1.out.alloc (.cells #[.bool false, .slice none 0 0] 35)).after hb
          have KK_a_2 := Lib.hid T9
          clear T9
          have T9 : HeldL u2 (w.heap.size + 1) [.bool t, .slice C p q, .slice E k l] := by first | exact KK_b_1.out.after hb | exact (KK_b_1.out.alloc (.cells #[.bool false, .slice none 0 0] 35)).after hb
          have KK_b_2 := Lib.hid T9
          clear T9
          have T9 : HeldL u2 (w.heap.size + 1 + 1) [.bool false, .slice none 0 0, .slice none 0 0] := by first | exact KK_res_1.out.after hb | exact (KK_res_1.out.alloc (.cells #[.bool false, .slice none 0 0] 35)).after hb
          have KK_res_2 := Lib.hid T9
          clear T9
          have T9 : HeldL u2 (b_n1) [.bool g1, .slice A1 (nats M1).length c1] := by first | exact KK_n1_1.out.after hb | exact (KK_n1_1.out.alloc (.cells #[.bool false, .slice none 0 0] 35)).after hb
          have KK_n1_2 := Lib.hid T9
          clear T9
          have T9 : OwnV u2 w.heap.size 3 (.slice A1 (nats M1).length c1) (nats M1) := by first | exact OwnV.below (w := u1) HH_O1_1.out hb | exact OwnV.below (w := (u1.alloc (.cells #[.bool false, .slice none 0 0] 35))) (OwnV.below HH_O1_1.out ((Below.refl _ u1).alloc (Nat.le_refl _) (.cells #[.bool false, .slice none 0 0] 35))) hb
          have HH_O1_2 := Lib.hid T9
          clear T9
          have T9 : OwnV u2 w.heap.size 3 (.slice Am2 (nats (dig (val es * val bs))).length cm2) (nats (dig (val es * val bs))) := by first | exact OwnV.below (w := u1) HH_Om2_1.out hb | exact OwnV.below (w := (u1.alloc (.cells #[.bool false, .slice none 0 0] 35))) (OwnV.below HH_Om2_1.out ((Below.refl _ u1).alloc (Nat.le_refl _) (.cells #[.bool false, .slice none 0 0] 35))) hb
          have HH_Om2_2 := Lib.hid T9
          clear T9
          have HOn := Lib.hid ho
          have T9 : OwnV u2 w.heap.size 3 (.slice A2 (nats M2).length c2) (nats M2) := by first | exact ho.based HHB_1.out.size | exact ho.based (HHB_1.out.alloc HHB_1.out.size (.cells #[.bool false, .slice none 0 0] 35)).size
          have HH_O2_2 := Lib.hid T9
          clear T9 ho
          have T9 : Below w.heap.size w u2 := by first | exact (HHB_1.out).trans (hb.mono (HHB_1.out).size) | exact ((HHB_1.out.alloc HHB_1.out.size (.cells #[.bool false, .slice none 0 0] 35))).trans (hb.mono ((HHB_1.out.alloc HHB_1.out.size (.cells #[.bool false, .slice none 0 0] 35))).size)
          have HHB_2 := Lib.hid T9
          clear T9 hb
          have hk_a_0_2 := KK_a_2.out.cell 0 _ rfl
          have hk_a_1_2 := KK_a_2.out.cell 1 _ rfl
          have hk_a_2_2 := KK_a_2.out.cell 2 _ rfl
          have hk_b_0_2 := KK_b_2.out.cell 0 _ rfl
          have hk_b_1_2 := KK_b_2.out.cell 1 _ rfl
          have hk_b_2_2 := KK_b_2.out.cell 2 _ rfl
          try have hkn0 := KN2.out.cell 0 _ rfl
          try have hkf0 := KN2.out.froz 0 _ rfl
          try have hkn1 := KN2.out.cell 1 _ rfl
          try have hkf1 := KN2.out.froz 1 _ rfl
          try have hne_a := NE_a.out
          try have hnf_a := NE_a.out.symm
          try have hne_b := NE_b.out
          try have hnf_b := NE_b.out.symm))
   all_goals go_wp2_with fail
   all_goals go_meet
   all_goals refine ⟨_, A2, c2, rfl, ?_, ?_, ?_, ?_, ?_, ?_, ?_, ?_⟩
   all_goals first
     | exact HeldL.new u2 _ _
     | exact ((KN2.out.set 0 _ _ rfl).set 1 _ _ rfl)
     | exact OwnV.below HH_O2_2.out ((Below.refl _ u2).alloc (Nat.le_refl _) _)
     | exact ((HOn.out.setBelow HLN2.out _).setBelow HLN2.out _).based (Nat.le_trans HGN.out (Nat.le_of_lt HLN2.out))
     | exact KK_a_2.out.alloc _
     | exact ((KK_a_2.out.setOther NE_a.out _).setOther NE_a.out _)
     | exact KK_b_2.out.alloc _
     | exact ((KK_b_2.out.setOther NE_b.out _).setOther NE_b.out _)
     | exact KK_res_2.out.alloc _
     | exact ((KK_res_2.out.setOther NE_res.out _).setOther NE_res.out _)
     | exact KK_n1_2.out.alloc _
     | exact ((KK_n1_2.out.setOther NE_n1.out _).setOther NE_n1.out _)
     | exact OwnV.below HH_O1_2.out ((Below.refl _ u2).alloc (Nat.le_refl _) _)
     | exact ((HH_O1_2.out.setOther NB_O1.out _).setOther NB_O1.out _)
     | exact HHB_2.out.alloc HHB_2.out.size _
     | exact ((HHB_2.out.setCell HGN.out _).setCell HGN.out _)
 clear hk_a_0_1
 clear hk_a_1_1
 clear hk_a_2_1
 clear hk_b_0_1
 clear hk_b_1_1
 clear hk_b_2_1
 clear K_a_1
 clear K_b_1
 clear K_res_1
 clear K_n1_1
 clear H_O1_1
 clear HB_1
 obtain ⟨b_n2, A2, c2, rfl, hkn, hon, hq_a, hq_b, hq_res, hq_n1, hr_O1, hbw⟩ := hcut
 have K_a_2 := Lib.hid hq_a
 clear hq_a
 have K_b_2 := Lib.hid hq_b
 clear hq_b
 have K_res_2 := Lib.hid hq_res
 clear hq_res
 have K_n1_2 := Lib.hid hq_n1
 clear hq_n1
 have H_O1_2 := Lib.hid hr_O1
 clear hr_O1
 have K_n2_2 := Lib.hid hkn
 clear hkn
 have H_O2_2 := Lib.hid hon
 clear hon
 have HB_2 := Lib.hid hbw
 clear hbw
 have hk_n1_0_2 := K_n1_2.out.cell 0 _ rfl
 have hk_n1_1_2 := K_n1_2.out.cell 1 _ rfl
 have hk_n2_0_2 := K_n2_2.out.cell 0 _ rfl
 have hk_n2_1_2 := K_n2_2.out.cell 1 _ rfl
 go_wp2_with fail
 refine (l03Add_let g1 g2 A1 A2 _ c1 _ c2 M1 M2 z g8 M8 HSUM.out Hg8.out HM8.out _ H_O1_2.out.arg H_O2_2.out.arg HCM1.out HCM2.out HLM1.out HLM2.out).mono ?_
 rintro e w8 ⟨v8, rfl, ho, hb⟩
 obtain ⟨A8, c8, rfl⟩ := ho.shape
 have HO8 := Lib.hid ho
 have AP_O1_O8 := Lib.hid (OwnV.apart H_O1_2.out ho (Nat.le_refl _))
 have AP_O8_O1 := Lib.hid (OwnV.apart' ho H_O1_2.out (Nat.le_refl _))
 have AP_O2_O8 := Lib.hid (OwnV.apart H_O2_2.out ho (Nat.le_refl _))
 have AP_O8_O2 := Lib.hid (OwnV.apart' ho H_O2_2.out (Nat.le_refl _))
 clear ho
 have K_a_3 := Lib.hid (K_a_2.out.after hb)
 have K_b_3 := Lib.hid (K_b_2.out.after hb)
 have K_res_3 := Lib.hid (K_res_2.out.after hb)
 have K_n1_3 := Lib.hid (K_n1_2.out.after hb)
 have K_n2_3 := Lib.hid (K_n2_2.out.after hb)
 have H_O1_3 := Lib.hid (OwnV.below (w := wc) H_O1_2.out hb)
 have H_O2_3 := Lib.hid (OwnV.below (w := wc) H_O2_2.out hb)
 have HB_3 := Lib.hid (HB_2.out.trans (hb.mono HB_2.out.size))
 clear hb
 have K_a_4 := Lib.hid (K_a_3.out.alloc (.cells #[.bool g8, .slice A8 (nats M8).length c8] 35))
 have hne_a_n8 : w.heap.size ≠ w8.heap.size := by have := K_a_3.out.lt; omega
 have hne_n8_a : w8.heap.size ≠ w.heap.size := by have := K_a_3.out.lt; omega
 have K_b_4 := Lib.hid (K_b_3.out.alloc (.cells #[.bool g8, .slice A8 (nats M8).length c8] 35))
 have hne_b_n8 : w.heap.size + 1 ≠ w8.heap.size := by have := K_b_3.out.lt; omega
 have hne_n8_b : w8.heap.size ≠ w.heap.size + 1 := by have := K_b_3.out.lt; omega
 have K_res_4 := Lib.hid (K_res_3.out.alloc (.cells #[.bool g8, .slice A8 (nats M8).length c8] 35))
 have hne_res_n8 : w.heap.size + 1 + 1 ≠ w8.heap.size := by have := K_res_3.out.lt; omega
 have hne_n8_res : w8.heap.size ≠ w.heap.size + 1 + 1 := by have := K_res_3.out.lt; omega
 have K_n1_4 := Lib.hid (K_n1_3.out.alloc (.cells #[.bool g8, .slice A8 (nats M8).length c8] 35))
 have hne_n1_n8 : b_n1 ≠ w8.heap.size := by have := K_n1_3.out.lt; omega
 have hne_n8_n1 : w8.heap.size ≠ b_n1 := by have := K_n1_3.out.lt; omega
 have K_n2_4 := Lib.hid (K_n2_3.out.alloc (.cells #[.bool g8, .slice A8 (nats M8).length c8] 35))
 have hne_n2_n8 : b_n2 ≠ w8.heap.size := by have := K_n2_3.out.lt; omega
 have hne_n8_n2 : w8.heap.size ≠ b_n2 := by have := K_n2_3.out.lt; omega
 have K_n8_4 := Lib.hid (HeldL.new w8 [.bool g8, .slice A8 (nats M8).length c8] 35)
 have H_O1_4 := Lib.hid (OwnV.below H_O1_3.out ((Below.refl _ w8).alloc (Nat.le_refl _) (.cells #[.bool g8, .slice A8 (nats M8).length c8] 35)))
 have H_O2_4 := Lib.hid (OwnV.below H_O2_3.out ((Below.refl _ w8).alloc (Nat.le_refl _) (.cells #[.bool g8, .slice A8 (nats M8).length c8] 35)))
 have H_O8_4 := Lib.hid (OwnV.below HO8.out ((Below.refl _ w8).alloc (Nat.le_refl _) (.cells #[.bool g8, .slice A8 (nats M8).length c8] 35)))
 have HB_4 := Lib.hid (HB_3.out.alloc HB_3.out.size (.cells #[.bool g8, .slice A8 (nats M8).length c8] 35))
 go_upto_region 7 with fail
 clear hk_n1_0_2
 clear hk_n1_1_2
 clear hk_n2_0_2
 clear hk_n2_1_2
 obtain ⟨w8a, hw8a⟩ : ∃ u, (w8.alloc (.cells #[.bool g8, .slice A8 (nats M8).length c8] 35)) = u := ⟨_, rfl⟩
 rw [hw8a] at K_a_4 K_b_4 K_res_4 K_n1_4 K_n2_4 K_n8_4 H_O1_4 H_O2_4 H_O8_4 HB_4 ⊢
 clear hw8a
 have hk_n8_0_4 := K_n8_4.out.cell 0 _ rfl
 have hk_n8_1_4 := K_n8_4.out.cell 1 _ rfl
 have hk_a_0_4 := K_a_4.out.cell 0 _ rfl
 have hk_a_1_4 := K_a_4.out.cell 1 _ rfl
 have hk_a_2_4 := K_a_4.out.cell 2 _ rfl
 have hk_b_0_4 := K_b_4.out.cell 0 _ rfl
 have hk_b_1_4 := K_b_4.out.cell 1 _ rfl
 have hk_b_2_4 := K_b_4.out.cell 2 _ rfl
 have hk_res_0_4 := K_res_4.out.cell 0 _ rfl
 have hk_res_0_4f := K_res_4.out.froz 0 _ rfl
 have hk_res_1_4 := K_res_4.out.cell 1 _ rfl
 have hk_res_1_4f := K_res_4.out.froz 1 _ rfl
 have hk_res_2_4 := K_res_4.out.cell 2 _ rfl
 have hk_res_2_4f := K_res_4.out.froz 2 _ rfl
 go_wp2
 go_region_held3 (fun w' => w'.cell? ⟨w8.heap.size, 0, none⟩ = some (.bool g8) ∧ w'.cell? ⟨w8.heap.size, 1, none⟩ = some (.slice A8 (nats M8).length c8) ∧ w'.cell? ⟨w.heap.size, 0, none⟩ = some (.bool s) ∧ w'.cell? ⟨w.heap.size, 1, none⟩ = some (.slice A n c) ∧ w'.cell? ⟨w.heap.size, 2, none⟩ = some (.slice B m d) ∧ w'.cell? ⟨w.heap.size + 1, 0, none⟩ = some (.bool t) ∧ w'.cell? ⟨w.heap.size + 1, 1, none⟩ = some (.slice C p q) ∧ w'.cell? ⟨w.heap.size + 1, 2, none⟩ = some (.slice E k l)) (go_keep)
   (first
     | (go_at_call_of 102 (Value.slice B m d)
        refine (l02Mul_any B E m d k l bs gs _ (HB.out.below HB_4.out.drew (Nat.le_refl _)).1 (HE.out.below HB_4.out.drew (Nat.le_refl _)).1 Hv.out.2.1.1 Hv2.out.2.1.1 ?_).mono ?_
        omega
        rintro e wm3 ⟨vm3, rfl, ho, hb⟩
        obtain ⟨Am3, cm3, rfl⟩ := ho.shape
        have HOm3 := Lib.hid ho
        clear ho
        have K_a_5 := Lib.hid (K_a_4.out.drew.after hb)
        have K_b_5 := Lib.hid (K_b_4.out.drew.after hb)
        have K_res_5 := Lib.hid (K_res_4.out.drew.after hb)
        have K_n1_5 := Lib.hid (K_n1_4.out.drew.after hb)
        have K_n2_5 := Lib.hid (K_n2_4.out.drew.after hb)
        have K_n8_5 := Lib.hid (K_n8_4.out.drew.after hb)
        have H_O1_5 := Lib.hid (OwnV.below (w := w8a.drew) H_O1_4.out hb)
        have H_O2_5 := Lib.hid (OwnV.below (w := w8a.drew) H_O2_4.out hb)
        have H_O8_5 := Lib.hid (OwnV.below (w := w8a.drew) H_O8_4.out hb)
        have HB_5 := Lib.hid (HB_4.out.drew.trans (hb.mono HB_4.out.drew.size))
        clear hb
        have hk_n8_0_5 := K_n8_5.out.cell 0 _ rfl
        have hk_n8_1_5 := K_n8_5.out.cell 1 _ rfl
        have hk_a_0_5 := K_a_5.out.cell 0 _ rfl
        have hk_a_1_5 := K_a_5.out.cell 1 _ rfl
        have hk_a_2_5 := K_a_5.out.cell 2 _ rfl
        have hk_b_0_5 := K_b_5.out.cell 0 _ rfl
        have hk_b_1_5 := K_b_5.out.cell 1 _ rfl
        have hk_b_2_5 := K_b_5.out.cell 2 _ rfl)
     | (go_at_call 101
        refine (l04Low_let g8 A8 (nats M8).length c8 M8 Am3 _ cm3 (dig (val bs * val gs)) z bv HZ8.out ?_ _ H_O8_5.out.arg HOm3.out.arg HCM8.out.1 (dig_can _).1 HLM8.out ?_ RS RN RD HLS.out HLN.out HLD.out).mono ?_
        rw [val_dig]; exact Hbv.out
        rw [nats_len]; exact HLB.out
        rintro e w9 ⟨v9n, v9d, rfl, hon, hod, apn, apd, hb⟩
        obtain ⟨A9n, c9n, rfl⟩ := hon.shape
        obtain ⟨A9d, c9d, rfl⟩ := hod.shape
        have HO9n := Lib.hid hon
        have HO9d := Lib.hid hod
        have AP_O9n_O9d := Lib.hid apn
        have AP_O9d_O9n := Lib.hid apd
        clear hon hod apn apd
        have K_a_6 := Lib.hid (K_a_5.out.after hb)
        have K_b_6 := Lib.hid (K_b_5.out.after hb)
        have K_res_6 := Lib.hid (K_res_5.out.after hb)
        have K_n1_6 := Lib.hid (K_n1_5.out.after hb)
        have K_n2_6 := Lib.hid (K_n2_5.out.after hb)
        have K_n8_6 := Lib.hid (K_n8_5.out.after hb)
        have H_O1_6 := Lib.hid (OwnV.below (w := wm3) H_O1_5.out hb)
        have H_O2_6 := Lib.hid (OwnV.below (w := wm3) H_O2_5.out hb)
        have H_O8_6 := Lib.hid (OwnV.below (w := wm3) H_O8_5.out hb)
        have H_Om3_6 := Lib.hid (OwnV.below (w := wm3) HOm3.out hb)
        have HB_6 := Lib.hid (HB_5.out.trans (hb.mono HB_5.out.size))
        clear hb
        have hk_n8_0_6 := K_n8_6.out.cell 0 _ rfl
        have hk_n8_1_6 := K_n8_6.out.cell 1 _ rfl
        have hk_a_0_6 := K_a_6.out.cell 0 _ rfl
        have hk_a_1_6 := K_a_6.out.cell 1 _ rfl
        have hk_a_2_6 := K_a_6.out.cell 2 _ rfl
        have hk_b_0_6 := K_b_6.out.cell 0 _ rfl
        have hk_b_1_6 := K_b_6.out.cell 1 _ rfl
        have hk_b_2_6 := K_b_6.out.cell 2 _ rfl
        have hk_res_0_6 := K_res_6.out.cell 0 _ rfl
        have hk_res_0_6f := K_res_6.out.froz 0 _ rfl
        have hk_res_1_6 := K_res_6.out.cell 1 _ rfl
        have hk_res_1_6f := K_res_6.out.froz 1 _ rfl
        have hk_res_2_6 := K_res_6.out.cell 2 _ rfl
        have hk_res_2_6f := K_res_6.out.froz 2 _ rfl))
 go_wp2
 have hr0 := K_res_6.out.cell 0 _ rfl
 have hr1 := K_res_6.out.cell 1 _ rfl
 have hr2 := K_res_6.out.cell 2 _ rfl
 exact bodyPost_ret (v := .agg #[.bool RS, .slice A9n (nats RN).length c9n, .slice A9d (nats RD).length c9d]) (by simp [results, Tryz.results65, go_sem, hr0, hr1, hr2]) rfl (ownRR_close HB_6.out HO9n.out HO9d.out K_res_5.out.lt K_res_5.out.lt (by omega) AP_O9n_O9d.out AP_O9d_O9n.out)
end Go.Proofs.YtaboodioabopnaaGreat
namespace Go.Proofs.YtaboodioabopnaaGreat
open Go.RowKit Nt
set_option linter.unusedVariables false
set_option maxRecDepth 100000 in
set_option maxHeartbeats 4000000 in
theorem l04Add_mix (s : Bool) (A : Option Addr) (n c : Nat) (ds : List Nat) (B : Option Addr) (m d : Nat) (bs : List Nat) (t : Bool) (C : Option Addr) (p q : Nat) (es : List Nat) (E : Option Addr) (k l : Nat) (gs : List Nat) (z : Int) (bv : Nat) (hz : signed s (val ds) * (val gs : Int) + signed t (val es) * (val bs : Int) = z) (hbv : val bs * val gs = bv) (w : World) (hA : Arg w A n c (nats ds)) (hB : Arg w B m d (nats bs)) (hv : Valid ds bs) (hC : Arg w C p q (nats es)) (hE : Arg w E k l (nats gs)) (hv2 : Valid es gs) (h1 : isOne bs = true) (h2 : isOne gs = false) :
   Calls Tryz.prog 65 #[.agg #[.bool s, .slice A n c, .slice B m d], .agg #[.bool t, .slice C p q, .slice E k l]] w (OwnRR 3 (loS z bv) (nats (loN z bv)) (nats (loD z bv)) w) := by
 obtain ⟨RS, hRS⟩ : ∃ y9, loS z bv = y9 := ⟨_, rfl⟩
 obtain ⟨RN, hRN⟩ : ∃ y9, loN z bv = y9 := ⟨_, rfl⟩
 obtain ⟨RD, hRD⟩ : ∃ y9, loD z bv = y9 := ⟨_, rfl⟩
 rw [hRS, hRN, hRD]
 have HLS := Lib.hid hRS
 have HLN := Lib.hid hRN
 have HLD := Lib.hid hRD
 clear hRS hRN hRD
 have hn : n ≤ 24 := by have := hA.nlen; have := hv.2.2.1; omega
 have hm : m ≤ 24 := by have := hB.nlen; have := hv.2.2.2.1; omega
 have hp : p ≤ 24 := by have := hC.nlen; have := hv2.2.2.1; omega
 have hk : k ≤ 24 := by have := hE.nlen; have := hv2.2.2.2.1; omega
 have HBZ := Lib.hid (show z.natAbs < 1000000000 ^ 60 by rw [← hz]; exact add_small hv hv2)
 obtain ⟨z1, hz1⟩ : ∃ y9, signed s (val ds) * (val gs : Int) = y9 := ⟨_, rfl⟩
 obtain ⟨z2, hz2⟩ : ∃ y9, signed t (val es) * (val bs : Int) = y9 := ⟨_, rfl⟩
 have HBK1 := Lib.hid (show signed (sgZ z1) (val (magZ z1)) = z1 by rw [← hz1]; exact back_z (one_small hv.1 hv.2.2.1 hv2.2.1 hv2.2.2.2.1))
 have HBK2 := Lib.hid (show signed (sgZ z2) (val (magZ z2)) = z2 by rw [← hz2]; exact back_z (one_small hv2.1 hv2.2.2.1 hv.2.1 hv.2.2.2.1))
 have HZ1 := Lib.hid (show signed s (val (dig (val ds * val gs))) = z1 by rw [val_dig, signed_z]; exact hz1)
 have HZ2 := Lib.hid (show signed t (val (dig (val es * val bs))) = z2 by rw [val_dig, signed_z]; exact hz2)
 have HZO := Lib.hid (show val bs = 1 → val gs = 1 → signed s (val ds) + signed t (val es) = z by intro h1 h2; rw [← hz, h1, h2]; simp)
 have HBO := Lib.hid (show val bs = 1 → val gs = 1 → val [1] = bv by intro h1 h2; rw [← hbv, h1, h2]; rfl)
 obtain ⟨g1, hg1⟩ : ∃ y9, sgZ z1 = y9 := ⟨_, rfl⟩
 obtain ⟨g2, hg2⟩ : ∃ y9, sgZ z2 = y9 := ⟨_, rfl⟩
 obtain ⟨g8, hg8⟩ : ∃ y9, sgZ z = y9 := ⟨_, rfl⟩
 obtain ⟨M1, hM1⟩ : ∃ y9, magZ z1 = y9 := ⟨_, rfl⟩
 obtain ⟨M2, hM2⟩ : ∃ y9, magZ z2 = y9 := ⟨_, rfl⟩
 obtain ⟨M8, hM8⟩ : ∃ y9, magZ z = y9 := ⟨_, rfl⟩
 have HCM1 := Lib.hid (hM1 ▸ magZ_can z1)
 have HCM2 := Lib.hid (hM2 ▸ magZ_can z2)
 have HCM8 := Lib.hid (hM8 ▸ magZ_can z)
 have HLM1 := Lib.hid (show (nats M1).length ≤ 60 by rw [nats_len, ← hM1]; exact capd_len _)
 have HLM2 := Lib.hid (show (nats M2).length ≤ 60 by rw [nats_len, ← hM2]; exact capd_len _)
 have HLM8 := Lib.hid (show (nats M8).length ≤ 60 by rw [nats_len, ← hM8]; exact capd_len _)
 have HSUM := Lib.hid (show signed g1 (val M1) + signed g2 (val M2) = z by rw [← hg1, ← hg2, ← hM1, ← hM2, HBK1.out, HBK2.out, ← hz1, ← hz2]; exact hz)
 have HZ8 := Lib.hid (show signed g8 (val M8) = z by rw [← hg8, ← hM8]; exact back_z HBZ.out)
 have HLB := Lib.hid (mul_len hv.2.1 hv.2.2.2.1 hv2.2.1 hv2.2.2.2.1)
 clear hz hz1 hz2
 have Hg1 := Lib.hid hg1
 have Hg2 := Lib.hid hg2
 have Hg8 := Lib.hid hg8
 have HM1 := Lib.hid hM1
 have HM2 := Lib.hid hM2
 have HM8 := Lib.hid hM8
 clear hg1 hg2 hg8 hM1 hM2 hM8
 have HA := Lib.hid hA
 have HB := Lib.hid hB
 have HC := Lib.hid hC
 have HE := Lib.hid hE
 have Hv := Lib.hid hv
 have Hv2 := Lib.hid hv2
 have Hbv := Lib.hid hbv
 clear hA hB hC hE hv hv2 hbv
 go_enter Tryz.func65, Tryz.ntmps65
 have HB_0 := Lib.hid ((((Below.refl w.heap.size w).alloc (Nat.le_refl _) (.cells #[.bool s, .slice A n c, .slice B m d] 37)).alloc (by simp) (.cells #[.bool t, .slice C p q, .slice E k l] 37)).alloc (by simp; omega) (.cells #[.bool false, .slice none 0 0, .slice none 0 0] 37))
 have K_a_0 := Lib.hid (((HeldL.new_at w (w.heap.size) [.bool s, .slice A n c, .slice B m d] 37 (by first | rfl | simp)).alloc (.cells #[.bool t, .slice C p q, .slice E k l] 37)).alloc (.cells #[.bool false, .slice none 0 0, .slice none 0 0] 37))
 have K_b_0 := Lib.hid ((HeldL.new_at (w.alloc (.cells #[.bool s, .slice A n c, .slice B m d] 37)) (w.heap.size + 1) [.bool t, .slice C p q, .slice E k l] 37 (by first | rfl | simp)).alloc (.cells #[.bool false, .slice none 0 0, .slice none 0 0] 37))
 have K_res_0 := Lib.hid (HeldL.new_at ((w.alloc (.cells #[.bool s, .slice A n c, .slice B m d] 37)).alloc (.cells #[.bool t, .slice C p q, .slice E k l] 37)) (w.heap.size + 1 + 1) [.bool false, .slice none 0 0, .slice none 0 0] 37 (by first | rfl | simp))
 have hne_a_b : w.heap.size ≠ w.heap.size + 1 := by omega
 have hne_a_res : w.heap.size ≠ w.heap.size + 1 + 1 := by omega
 have hne_b_a : w.heap.size + 1 ≠ w.heap.size := by omega
 have hne_b_res : w.heap.size + 1 ≠ w.heap.size + 1 + 1 := by omega
 have hne_res_a : w.heap.size + 1 + 1 ≠ w.heap.size := by omega
 have hne_res_b : w.heap.size + 1 + 1 ≠ w.heap.size + 1 := by omega
 go_wp2_with fail
 refine (l04One_any B m d bs _ (HB.out.below HB_0.out (Nat.le_refl _)).1 HB.out.max).mono ?_
 rintro e w1 ⟨rfl, rfl⟩
 rw [h1]
 go_wp2_with fail
 refine (l04One_any E k l gs _ (HE.out.below HB_0.out (Nat.le_refl _)).1 HE.out.max).mono ?_
 rintro e w1 ⟨rfl, rfl⟩
 rw [h2]
 clear h1 h2
 obtain ⟨w4, hw4⟩ : ∃ u, (((w.alloc (.cells #[.bool s, .slice A n c, .slice B m d] 37)).alloc (.cells #[.bool t, .slice C p q, .slice E k l] 37)).alloc (.cells #[.bool false, .slice none 0 0, .slice none 0 0] 37)) = u := ⟨_, rfl⟩
 rw [hw4] at K_a_0 K_b_0 K_res_0 HB_0 ⊢
 clear hw4
 have hk_a_0_0 := K_a_0.out.cell 0 _ rfl
 have hk_a_1_0 := K_a_0.out.cell 1 _ rfl
 have hk_a_2_0 := K_a_0.out.cell 2 _ rfl
 have hk_b_0_0 := K_b_0.out.cell 0 _ rfl
 have hk_b_1_0 := K_b_0.out.cell 1 _ rfl
 have hk_b_2_0 := K_b_0.out.cell 2 _ rfl
 go_upto_region 4 with fail
 go_cut [6] (fun ptr wx => ∃ b A1 c1, ptr = .pointer (some ⟨b, 0, none⟩) ∧ HeldL wx b [.bool g1, .slice A1 (nats M1).length c1] ∧ OwnV wx w.heap.size 3 (.slice A1 (nats M1).length c1) (nats M1) ∧ HeldL wx (w.heap.size) [.bool s, .slice A n c, .slice B m d] ∧ HeldL wx (w.heap.size + 1) [.bool t, .slice C p q, .slice E k l] ∧ HeldL wx (w.heap.size + 1 + 1) [.bool false, .slice none 0 0, .slice none 0 0] ∧ Below w.heap.size w wx)
 case first =>
   go_region_held3 (fun w' => w'.cell? ⟨w.heap.size, 0, none⟩ = some (.bool s) ∧ w'.cell? ⟨w.heap.size, 1, none⟩ = some (.slice A n c) ∧ w'.cell? ⟨w.heap.size, 2, none⟩ = some (.slice B m d) ∧ w'.cell? ⟨w.heap.size + 1, 0, none⟩ = some (.bool t) ∧ w'.cell? ⟨w.heap.size + 1, 1, none⟩ = some (.slice C p q) ∧ w'.cell? ⟨w.heap.size + 1, 2, none⟩ = some (.slice E k l)) (go_keep)
     (first
       | (go_at_call 102
          refine (l02Mul_any A E n c k l ds gs _ ?_ ?_ Hv.out.1.1 Hv2.out.2.1.1 ?_).mono ?_
          first | exact (HA.out.below HB_0.out.drew (Nat.le_refl _)).1 | exact (HA.out.below (HB_0.out.alloc HB_0.out.size (.cells #[.bool false, .slice none 0 0] 35)).drew (Nat.le_refl _)).1
          first | exact (HE.out.below HB_0.out.drew (Nat.le_refl _)).1 | exact (HE.out.below (HB_0.out.alloc HB_0.out.size (.cells #[.bool false, .slice none 0 0] 35)).drew (Nat.le_refl _)).1
          omega
          rintro e u1 ⟨vm1, rfl, ho, hb⟩
          obtain ⟨Am1, cm1, rfl⟩ := ho.shape
          first | (have KN1 := Lib.hid ((HeldL.new w4 [.bool false, .slice none 0 0] 35).drew.after hb); have HLN1 := Lib.hid (HeldL.new w4 [.bool false, .slice none 0 0] 35).lt; have HGN := Lib.hid HB_0.out.size; have NE_a := Lib.hid (Nat.ne_of_lt K_a_0.out.lt); have NE_b := Lib.hid (Nat.ne_of_lt K_b_0.out.lt); have NE_res := Lib.hid (Nat.ne_of_lt K_res_0.out.lt)) | skip
          have T9 : HeldL u1 (w.heap.size) [.bool s, .slice A n c, .slice B m d] := by first | exact K_a_0.out.drew.after hb | exact (K_a_0.out.alloc (.cells #[.bool false, .slice none 0 0] 35)).drew.after hb
          have KK_a_1 := Lib.hid T9
          clear T9
          have T9 : HeldL u1 (w.heap.size + 1) [.bool t, .slice C p q, .slice E k l] := by first | exact K_b_0.out.drew.after hb | exact (K_b_0.out.alloc (.cells #[.bool false, .slice none 0 0] 35)).drew.after hb
          have KK_b_1 := Lib.hid T9
          clear T9
          have T9 : HeldL u1 (w.heap.size + 1 + 1) [.bool false, .slice none 0 0, .slice none 0 0] := by first | exact K_res_0.out.drew.after hb | exact (K_res_0.out.alloc (.cells #[.bool false, .slice none 0 0] 35)).drew.after hb
          have KK_res_1 := Lib.hid T9
          clear T9
          have T9 : OwnV u1 w.heap.size 3 (.slice Am1 (nats (dig (val ds * val gs))).length cm1) (nats (dig (val ds * val gs))) := by first | exact ho.based HB_0.out.drew.size | exact ho.based (HB_0.out.alloc HB_0.out.size (.cells #[.bool false, .slice none 0 0] 35)).drew.size
          have HH_Om1_1 := Lib.hid T9
          clear T9 ho
          have T9 : Below w.heap.size w u1 := by first | exact (HB_0.out.drew).trans (hb.mono (HB_0.out.drew).size) | exact ((HB_0.out.alloc HB_0.out.size (.cells #[.bool false, .slice none 0 0] 35)).drew).trans (hb.mono ((HB_0.out.alloc HB_0.out.size (.cells #[.bool false, .slice none 0 0] 35)).drew).size)
          have HHB_1 := Lib.hid T9
          clear T9 hb
          have hk_a_0_1 := KK_a_1.out.cell 0 _ rfl
          have hk_a_1_1 := KK_a_1.out.cell 1 _ rfl
          have hk_a_2_1 := KK_a_1.out.cell 2 _ rfl
          have hk_b_0_1 := KK_b_1.out.cell 0 _ rfl
          have hk_b_1_1 := KK_b_1.out.cell 1 _ rfl
          have hk_b_2_1 := KK_b_1.out.cell 2 _ rfl)
       | (go_at_call 98
          refine (l03Make_let s Am1 _ cm1 (dig (val ds * val gs)) z1 g1 M1 HZ1.out Hg1.out HM1.out _ ?_ (dig_can _).1).mono ?_
          first | exact (HH_Om1_1.out).arg | exact (OwnV.below HH_Om1_1.out ((Below.refl _ u1).alloc (Nat.le_refl _) (.cells #[.bool false, .slice none 0 0] 35))).arg
          rintro e u2 ⟨v1, rfl, ho, hb⟩
          obtain ⟨A1, c1, rfl⟩ := ho.shape
          first | (have KN2 := Lib.hid (KN1.out.after hb); have HLN2 := Lib.hid KN1.out.lt) | (have KN2 := Lib.hid ((HeldL.new u1 [.bool false, .slice none 0 0] 35).after hb); have HLN2 := Lib.hid (HeldL.new u1 [.bool false, .slice none 0 0] 35).lt; have HGN := Lib.hid HHB_1.out.size; have NE_a := Lib.hid (Nat.ne_of_lt KK_a_1.out.lt); have NE_b := Lib.hid (Nat.ne_of_lt KK_b_1.out.lt); have NE_res := Lib.hid (Nat.ne_of_lt KK_res_1.out.lt)) | skip
          have T9 : HeldL u2 (w.heap.size) [.bool s, .slice A n c, .slice B m d] := by first | exact KK_a_1.out.after hb | exact (KK_a_1.out.alloc (.cells #[.bool false, .slice none 0 0] 35)).after hb
          have KK_a_2 := Lib.hid T9
          clear T9
          have T9 : HeldL u2 (w.heap.size + 1) [.bool t, .slice C p q, .slice E k l] := by first | exact KK_b_1.out.after hb | exact (KK_b_1.out.alloc (.cells #[.bool false, .slice none 0 0] 35)).after hb
          have KK_b_2 := Lib.hid T9
          clear T9
          have T9 : HeldL u2 (w.heap.size + 1 + 1) [.bool false, .slice none 0 0, .slice none 0 0] := by first | exact KK_res_1.out.after hb | exact (KK_res_1.out.alloc (.cells #[.bool false, .slice none 0 0] 35)).after hb
          have KK_res_2 := Lib.hid T9
          clear T9
          have T9 : OwnV u2 w.heap.size 3 (.slice Am1 (nats (dig (val ds * val gs))).length cm1) (nats (dig (val ds * val gs))) := by first | exact OwnV.below (w := u1) HH_Om1_1.out hb | exact OwnV.below (w := (u1.alloc (.cells #[.bool false, .slice none 0 0] 35))) (OwnV.below HH_Om1_1.out ((Below.refl _ u1).alloc (Nat.le_refl _) (.cells #[.bool false, .slice none 0 0] 35))) hb
          have HH_Om1_2 := Lib.hid T9
          clear T9
          have HOn := Lib.hid ho
          have T9 : OwnV u2 w.heap.size 3 (.slice A1 (nats M1).length c1) (nats M1) := by first | exact ho.based HHB_1.out.size | exact ho.based (HHB_1.out.alloc HHB_1.out.size (.cells #[.bool false, .slice none 0 0] 35)).size
          have HH_O1_2 := Lib.hid T9
          clear T9 ho
          have T9 : Below w.heap.size w u2 := by first | exact (HHB_1.out).trans (hb.mono (HHB_1.out).size) | exact ((HHB_1.out.alloc HHB_1.out.size (.cells #[.bool false, .slice none 0 0] 35))).trans (hb.mono ((HHB_1.out.alloc HHB_1.out.size (.cells #[.bool false, .slice none 0 0] 35))).size)
          have HHB_2 := Lib.hid T9
          clear T9 hb
          have hk_a_0_2 := KK_a_2.out.cell 0 _ rfl
          have hk_a_1_2 := KK_a_2.out.cell 1 _ rfl
          have hk_a_2_2 := KK_a_2.out.cell 2 _ rfl
          have hk_b_0_2 := KK_b_2.out.cell 0 _ rfl
          have hk_b_1_2 := KK_b_2.out.cell 1 _ rfl
          have hk_b_2_2 := KK_b_2.out.cell 2 _ rfl
          try have hkn0 := KN2.out.cell 0 _ rfl
          try have hkf0 := KN2.out.froz 0 _ rfl
          try have hkn1 := KN2.out.cell 1 _ rfl
          try have hkf1 := KN2.out.froz 1 _ rfl
          try have hne_a := NE_a.out
          try have hnf_a := NE_a.out.symm
          try have hne_b := NE_b.out
          try have hnf_b := NE_b.out.symm))
   all_goals go_wp2_with fail
   all_goals go_meet
   all_goals refine ⟨_, A1, c1, rfl, ?_, ?_, ?_, ?_, ?_, ?_⟩
   all_goals first
     | exact HeldL.new u2 _ _
     | exact ((KN2.out.set 0 _ _ rfl).set 1 _ _ rfl)
     | exact OwnV.below HH_O1_2.out ((Below.refl _ u2).alloc (Nat.le_refl _) _)
     | exact ((HOn.out.setBelow HLN2.out _).setBelow HLN2.out _).based (Nat.le_trans HGN.out (Nat.le_of_lt HLN2.out))
     | exact KK_a_2.out.alloc _
     | exact ((KK_a_2.out.setOther NE_a.out _).setOther NE_a.out _)
     | exact KK_b_2.out.alloc _
     | exact ((KK_b_2.out.setOther NE_b.out _).setOther NE_b.out _)
     | exact KK_res_2.out.alloc _
     | exact ((KK_res_2.out.setOther NE_res.out _).setOther NE_res.out _)
     | exact HHB_2.out.alloc HHB_2.out.size _
     | exact ((HHB_2.out.setCell HGN.out _).setCell HGN.out _)
 clear hk_a_0_0
 clear hk_a_1_0
 clear hk_a_2_0
 clear hk_b_0_0
 clear hk_b_1_0
 clear hk_b_2_0
 clear K_a_0
 clear K_b_0
 clear K_res_0
 clear HB_0
 obtain ⟨b_n1, A1, c1, rfl, hkn, hon, hq_a, hq_b, hq_res, hbw⟩ := hcut
 have K_a_1 := Lib.hid hq_a
 clear hq_a
 have K_b_1 := Lib.hid hq_b
 clear hq_b
 have K_res_1 := Lib.hid hq_res
 clear hq_res
 have K_n1_1 := Lib.hid hkn
 clear hkn
 have H_O1_1 := Lib.hid hon
 clear hon
 have HB_1 := Lib.hid hbw
 clear hbw
 have hk_a_0_1 := K_a_1.out.cell 0 _ rfl
 have hk_a_1_1 := K_a_1.out.cell 1 _ rfl
 have hk_a_2_1 := K_a_1.out.cell 2 _ rfl
 have hk_b_0_1 := K_b_1.out.cell 0 _ rfl
 have hk_b_1_1 := K_b_1.out.cell 1 _ rfl
 have hk_b_2_1 := K_b_1.out.cell 2 _ rfl
 go_upto_region 5 with fail
 go_cut [7] (fun ptr wx => ∃ b A2 c2, ptr = .pointer (some ⟨b, 0, none⟩) ∧ HeldL wx b [.bool g2, .slice A2 (nats M2).length c2] ∧ OwnV wx w.heap.size 3 (.slice A2 (nats M2).length c2) (nats M2) ∧ HeldL wx (w.heap.size) [.bool s, .slice A n c, .slice B m d] ∧ HeldL wx (w.heap.size + 1) [.bool t, .slice C p q, .slice E k l] ∧ HeldL wx (w.heap.size + 1 + 1) [.bool false, .slice none 0 0, .slice none 0 0] ∧ HeldL wx (b_n1) [.bool g1, .slice A1 (nats M1).length c1] ∧ OwnV wx w.heap.size 3 (.slice A1 (nats M1).length c1) (nats M1) ∧ Below w.heap.size w wx)
 case first =>
   go_region_held3 (fun w' => w'.cell? ⟨w.heap.size, 0, none⟩ = some (.bool s) ∧ w'.cell? ⟨w.heap.size, 1, none⟩ = some (.slice A n c) ∧ w'.cell? ⟨w.heap.size, 2, none⟩ = some (.slice B m d) ∧ w'.cell? ⟨w.heap.size + 1, 0, none⟩ = some (.bool t) ∧ w'.cell? ⟨w.heap.size + 1, 1, none⟩ = some (.slice C p q) ∧ w'.cell? ⟨w.heap.size + 1, 2, none⟩ = some (.slice E k l)) (go_keep)
     (first
       | (go_at_call 102
          refine (l02Mul_any C B p q m d es bs _ ?_ ?_ Hv2.out.1.1 Hv.out.2.1.1 ?_).mono ?_
          first | exact (HC.out.below HB_1.out.drew (Nat.le_refl _)).1 | exact (HC.out.below (HB_1.out.alloc HB_1.out.size (.cells #[.bool false, .slice none 0 0] 35)).drew (Nat.le_refl _)).1
          first | exact (HB.out.below HB_1.out.drew (Nat.le_refl _)).1 | exact (HB.out.below (HB_1.out.alloc HB_1.out.size (.cells #[.bool false, .slice none 0 0] 35)).drew (Nat.le_refl _)).1
          omega
          rintro e u1 ⟨vm2, rfl, ho, hb⟩
          obtain ⟨Am2, cm2, rfl⟩ := ho.shape
          first | (have KN1 := Lib.hid ((HeldL.new wc [.bool false, .slice none 0 0] 35).drew.after hb); have HLN1 := Lib.hid (HeldL.new wc [.bool false, .slice none 0 0] 35).lt; have HGN := Lib.hid HB_1.out.size; have NE_a := Lib.hid (Nat.ne_of_lt K_a_1.out.lt); have NE_b := Lib.hid (Nat.ne_of_lt K_b_1.out.lt); have NE_res := Lib.hid (Nat.ne_of_lt K_res_1.out.lt); have NE_n1 := Lib.hid (Nat.ne_of_lt K_n1_1.out.lt); have NB_O1 := Lib.hid (OwnV.bn_new H_O1_1.out)) | skip
          have T9 : HeldL u1 (w.heap.size) [.bool s, .slice A n c, .slice B m d] := by first | exact K_a_1.out.drew.after hb | exact (K_a_1.out.alloc (.cells #[.bool false, .slice none 0 0] 35)).drew.after hb
          have KK_a_1 := Lib.hid T9
          clear T9
          have T9 : HeldL u1 (w.heap.size + 1) [.bool t, .slice C p q, .slice E k l] := by first | exact K_b_1.out.drew.after hb | exact (K_b_1.out.alloc (.cells #[.bool false, .slice none 0 0] 35)).drew.after hb
          have KK_b_1 := Lib.hid T9
          clear T9
          have T9 : HeldL u1 (w.heap.size + 1 + 1) [.bool false, .slice none 0 0, .slice none 0 0] := by first | exact K_res_1.out.drew.after hb | exact (K_res_1.out.alloc (.cells #[.bool false, .slice none 0 0] 35)).drew.after hb
          have KK_res_1 := Lib.hid T9
          clear T9
          have T9 : HeldL u1 (b_n1) [.bool g1, .slice A1 (nats M1).length c1] := by first | exact K_n1_1.out.drew.after hb | exact (K_n1_1.out.alloc (.cells #[.bool false, .slice none 0 0] 35)).drew.after hb
          have KK_n1_1 := Lib.hid T9
          clear T9
          have T9 : OwnV u1 w.heap.size 3 (.slice A1 (nats M1).length c1) (nats M1) := by first | exact OwnV.below (w := wc.drew) H_O1_1.out hb | exact OwnV.below (w := (wc.alloc (.cells #[.bool false, .slice none 0 0] 35)).drew) (OwnV.below H_O1_1.out ((Below.refl _ wc).alloc (Nat.le_refl _) (.cells #[.bool false, .slice none 0 0] 35)).drew) hb
          have HH_O1_1 := Lib.hid T9
          clear T9
          have T9 : OwnV u1 w.heap.size 3 (.slice Am2 (nats (dig (val es * val bs))).length cm2) (nats (dig (val es * val bs))) := by first | exact ho.based HB_1.out.drew.size | exact ho.based (HB_1.out.alloc HB_1.out.size (.cells #[.bool false, .slice none 0 0] 35)).drew.size
          have HH_Om2_1 := Lib.hid T9
          clear T9 ho
          have T9 : Below w.heap.size w u1 := by first | exact (HB_1.out.drew).trans (hb.mono (HB_1.out.drew).size) | exact ((HB_1.out.alloc HB_1.out.size (.cells #[.bool false, .slice none 0 0] 35)).drew).trans (hb.mono ((HB_1.out.alloc HB_1.out.size (.cells #[.bool false, .slice none 0 0] 35)).drew).size)
          have HHB_1 := Lib.hid T9
          clear T9 hb
          have hk_a_0_1 := KK_a_1.out.cell 0 _ rfl
          have hk_a_1_1 := KK_a_1.out.cell 1 _ rfl
          have hk_a_2_1 := KK_a_1.out.cell 2 _ rfl
          have hk_b_0_1 := KK_b_1.out.cell 0 _ rfl
          have hk_b_1_1 := KK_b_1.out.cell 1 _ rfl
          have hk_b_2_1 := KK_b_1.out.cell 2 _ rfl)
       | (go_at_call 98
          refine (l03Make_let t Am2 _ cm2 (dig (val es * val bs)) z2 g2 M2 HZ2.out Hg2.out HM2.out _ ?_ (dig_can _).1).mono ?_
          first | exact (HH_Om2_1.out).arg | exact (OwnV.below HH_Om2_1.out ((Below.refl _ u1).alloc (Nat.le_refl _) (.cells #[.bool false, .slice none 0 0] 35))).arg
          rintro e u2 ⟨v2, rfl, ho, hb⟩
          obtain ⟨A2, c2, rfl⟩ := ho.shape
          first | (have KN2 := Lib.hid (KN1.out.after hb); have HLN2 := Lib.hid KN1.out.lt) | (have KN2 := Lib.hid ((HeldL.new u1 [.bool false, .slice none 0 0] 35).after hb); have HLN2 := Lib.hid (HeldL.new u1 [.bool false, .slice none 0 0] 35).lt; have HGN := Lib.hid HHB_1.out.size; have NE_a := Lib.hid (Nat.ne_of_lt KK_a_1.out.lt); have NE_b := Lib.hid (Nat.ne_of_lt KK_b_1.out.lt); have NE_res := Lib.hid (Nat.ne_of_lt KK_res_1.out.lt); have NE_n1 := Lib.hid (Nat.ne_of_lt KK_n1_1.out.lt); have NB_O1 := Lib.hid (OwnV.bn_new HH_O1_1.out)) | skip
          have T9 : HeldL u2 (w.heap.size) [.bool s, .slice A n c, .slice B m d] := by first | exact KK_a_1.out.after hb | exact (KK_a_1.out.alloc (.cells #[.bool false, .slice none 0 0] 35)).after hb
          have KK_a_2 := Lib.hid T9
          clear T9
          have T9 : HeldL u2 (w.heap.size + 1) [.bool t, .slice C p q, .slice E k l] := by first | exact KK_b_1.out.after hb | exact (KK_b_1.out.alloc (.cells #[.bool false, .slice none 0 0] 35)).after hb
          have KK_b_2 := Lib.hid T9
          clear T9
          have T9 : HeldL u2 (w.heap.size + 1 + 1) [.bool false, .slice none 0 0, .slice none 0 0] := by first | exact KK_res_1.out.after hb | exact (KK_res_1.out.alloc (.cells #[.bool false, .slice none 0 0] 35)).after hb
          have KK_res_2 := Lib.hid T9
          clear T9
          have T9 : HeldL u2 (b_n1) [.bool g1, .slice A1 (nats M1).length c1] := by first | exact KK_n1_1.out.after hb | exact (KK_n1_1.out.alloc (.cells #[.bool false, .slice none 0 0] 35)).after hb
          have KK_n1_2 := Lib.hid T9
          clear T9
          have T9 : OwnV u2 w.heap.size 3 (.slice A1 (nats M1).length c1) (nats M1) := by first | exact OwnV.below (w := u1) HH_O1_1.out hb | exact OwnV.below (w := (u1.alloc (.cells #[.bool false, .slice none 0 0] 35))) (OwnV.below HH_O1_1.out ((Below.refl _ u1).alloc (Nat.le_refl _) (.cells #[.bool false, .slice none 0 0] 35))) hb
          have HH_O1_2 := Lib.hid T9
          clear T9
          have T9 : OwnV u2 w.heap.size 3 (.slice Am2 (nats (dig (val es * val bs))).length cm2) (nats (dig (val es * val bs))) := by first | exact OwnV.below (w := u1) HH_Om2_1.out hb | exact OwnV.below (w := (u1.alloc (.cells #[.bool false, .slice none 0 0] 35))) (OwnV.below HH_Om2_1.out ((Below.refl _ u1).alloc (Nat.le_refl _) (.cells #[.bool false, .slice none 0 0] 35))) hb
          have HH_Om2_2 := Lib.hid T9
          clear T9
          have HOn := Lib.hid ho
          have T9 : OwnV u2 w.heap.size 3 (.slice A2 (nats M2).length c2) (nats M2) := by first | exact ho.based HHB_1.out.size | exact ho.based (HHB_1.out.alloc HHB_1.out.size (.cells #[.bool false, .slice none 0 0] 35)).size
          have HH_O2_2 := Lib.hid T9
          clear T9 ho
          have T9 : Below w.heap.size w u2 := by first | exact (HHB_1.out).trans (hb.mono (HHB_1.out).size) | exact ((HHB_1.out.alloc HHB_1.out.size (.cells #[.bool false, .slice none 0 0] 35))).trans (hb.mono ((HHB_1.out.alloc HHB_1.out.size (.cells #[.bool false, .slice none 0 0] 35))).size)
          have HHB_2 := Lib.hid T9
          clear T9 hb
          have hk_a_0_2 := KK_a_2.out.cell 0 _ rfl
          have hk_a_1_2 := KK_a_2.out.cell 1 _ rfl
          have hk_a_2_2 := KK_a_2.out.cell 2 _ rfl
          have hk_b_0_2 := KK_b_2.out.cell 0 _ rfl
          have hk_b_1_2 := KK_b_2.out.cell 1 _ rfl
          have hk_b_2_2 := KK_b_2.out.cell 2 _ rfl
          try have hkn0 := KN2.out.cell 0 _ rfl
          try have hkf0 := KN2.out.froz 0 _ rfl
          try have hkn1 := KN2.out.cell 1 _ rfl
          try have hkf1 := KN2.out.froz 1 _ rfl
          try have hne_a := NE_a.out
          try have hnf_a := NE_a.out.symm
          try have hne_b := NE_b.out
          try have hnf_b := NE_b.out.symm))
   all_goals go_wp2_with fail
   all_goals go_meet
   all_goals refine ⟨_, A2, c2, rfl, ?_, ?_, ?_, ?_, ?_, ?_, ?_, ?_⟩
   all_goals first
     | exact HeldL.new u2 _ _
     | exact ((KN2.out.set 0 _ _ rfl).set 1 _ _ rfl)
     | exact OwnV.below HH_O2_2.out ((Below.refl _ u2).alloc (Nat.le_refl _) _)
     | exact ((HOn.out.setBelow HLN2.out _).setBelow HLN2.out _).based (Nat.le_trans HGN.out (Nat.le_of_lt HLN2.out))
     | exact KK_a_2.out.alloc _
     | exact ((KK_a_2.out.setOther NE_a.out _).setOther NE_a.out _)
     | exact KK_b_2.out.alloc _
     | exact ((KK_b_2.out.setOther NE_b.out _).setOther NE_b.out _)
     | exact KK_res_2.out.alloc _
     | exact ((KK_res_2.out.setOther NE_res.out _).setOther NE_res.out _)
     | exact KK_n1_2.out.alloc _
     | exact ((KK_n1_2.out.setOther NE_n1.out _).setOther NE_n1.out _)
     | exact OwnV.below HH_O1_2.out ((Below.refl _ u2).alloc (Nat.le_refl _) _)
     | exact ((HH_O1_2.out.setOther NB_O1.out _).setOther NB_O1.out _)
     | exact HHB_2.out.alloc HHB_2.out.size _
     | exact ((HHB_2.out.setCell HGN.out _).setCell HGN.out _)
 clear hk_a_0_1
 clear hk_a_1_1
 clear hk_a_2_1
 clear hk_b_0_1
 clear hk_b_1_1
 clear hk_b_2_1
 clear K_a_1
 clear K_b_1
 clear K_res_1
 clear K_n1_1
 clear H_O1_1
 clear HB_1
 obtain ⟨b_n2, A2, c2, rfl, hkn, hon, hq_a, hq_b, hq_res, hq_n1, hr_O1, hbw⟩ := hcut
 have K_a_2 := Lib.hid hq_a
 clear hq_a
 have K_b_2 := Lib.hid hq_b
 clear hq_b
 have K_res_2 := Lib.hid hq_res
 clear hq_res
 have K_n1_2 := Lib.hid hq_n1
 clear hq_n1
 have H_O1_2 := Lib.hid hr_O1
 clear hr_O1
 have K_n2_2 := Lib.hid hkn
 clear hkn
 have H_O2_2 := Lib.hid hon
 clear hon
 have HB_2 := Lib.hid hbw
 clear hbw
 have hk_n1_0_2 := K_n1_2.out.cell 0 _ rfl
 have hk_n1_1_2 := K_n1_2.out.cell 1 _ rfl
 have hk_n2_0_2 := K_n2_2.out.cell 0 _ rfl
 have hk_n2_1_2 := K_n2_2.out.cell 1 _ rfl
 go_wp2_with fail
 refine (l03Add_let g1 g2 A1 A2 _ c1 _ c2 M1 M2 z g8 M8 HSUM.out Hg8.out HM8.out _ H_O1_2.out.arg H_O2_2.out.arg HCM1.out HCM2.out HLM1.out HLM2.out).mono ?_
 rintro e w8 ⟨v8, rfl, ho, hb⟩
 obtain ⟨A8, c8, rfl⟩ := ho.shape
 have HO8 := Lib.hid ho
 have AP_O1_O8 := Lib.hid (OwnV.apart H_O1_2.out ho (Nat.le_refl _))
 have AP_O8_O1 := Lib.hid (OwnV.apart' ho H_O1_2.out (Nat.le_refl _))
 have AP_O2_O8 := Lib.hid (OwnV.apart H_O2_2.out ho (Nat.le_refl _))
 have AP_O8_O2 := Lib.hid (OwnV.apart' ho H_O2_2.out (Nat.le_refl _))
 clear ho
 have K_a_3 := Lib.hid (K_a_2.out.after hb)
 have K_b_3 := Lib.hid (K_b_2.out.after hb)
 have K_res_3 := Lib.hid (K_res_2.out.after hb)
 have K_n1_3 := Lib.hid (K_n1_2.out.after hb)
 have K_n2_3 := Lib.hid (K_n2_2.out.after hb)
 have H_O1_3 := Lib.hid (OwnV.below (w := wc) H_O1_2.out hb)
 have H_O2_3 := Lib.hid (OwnV.below (w := wc) H_O2_2.out hb)
 have HB_3 := Lib.hid (HB_2.out.trans (hb.mono HB_2.out.size))
 clear hb
 have K_a_4 := Lib.hid (K_a_3.out.alloc (.cells #[.bool g8, .slice A8 (nats M8).length c8] 35))
 have hne_a_n8 : w.heap.size ≠ w8.heap.size := by have := K_a_3.out.lt; omega
 have hne_n8_a : w8.heap.size ≠ w.heap.size := by have := K_a_3.out.lt; omega
 have K_b_4 := Lib.hid (K_b_3.out.alloc (.cells #[.bool g8, .slice A8 (nats M8).length c8] 35))
 have hne_b_n8 : w.heap.size + 1 ≠ w8.heap.size := by have := K_b_3.out.lt; omega
 have hne_n8_b : w8.heap.size ≠ w.heap.size + 1 := by have := K_b_3.out.lt; omega
 have K_res_4 := Lib.hid (K_res_3.out.alloc (.cells #[.bool g8, .slice A8 (nats M8).length c8] 35))
 have hne_res_n8 : w.heap.size + 1 + 1 ≠ w8.heap.size := by have := K_res_3.out.lt; omega
 have hne_n8_res : w8.heap.size ≠ w.heap.size + 1 + 1 := by have := K_res_3.out.lt; omega
 have K_n1_4 := Lib.hid (K_n1_3.out.alloc (.cells #[.bool g8, .slice A8 (nats M8).length c8] 35))
 have hne_n1_n8 : b_n1 ≠ w8.heap.size := by have := K_n1_3.out.lt; omega
 have hne_n8_n1 : w8.heap.size ≠ b_n1 := by have := K_n1_3.out.lt; omega
 have K_n2_4 := Lib.hid (K_n2_3.out.alloc (.cells #[.bool g8, .slice A8 (nats M8).length c8] 35))
 have hne_n2_n8 : b_n2 ≠ w8.heap.size := by have := K_n2_3.out.lt; omega
 have hne_n8_n2 : w8.heap.size ≠ b_n2 := by have := K_n2_3.out.lt; omega
 have K_n8_4 := Lib.hid (HeldL.new w8 [.bool g8, .slice A8 (nats M8).length c8] 35)
 have H_O1_4 := Lib.hid (OwnV.below H_O1_3.out ((Below.refl _ w8).alloc (Nat.le_refl _) (.cells #[.bool g8, .slice A8 (nats M8).length c8] 35)))
 have H_O2_4 := Lib.hid (OwnV.below H_O2_3.out ((Below.refl _ w8).alloc (Nat.le_refl _) (.cells #[.bool g8, .slice A8 (nats M8).length c8] 35)))
 have H_O8_4 := Lib.hid (OwnV.below HO8.out ((Below.refl _ w8).alloc (Nat.le_refl _) (.cells #[.bool g8, .slice A8 (nats M8).length c8] 35)))
 have HB_4 := Lib.hid (HB_3.out.alloc HB_3.out.size (.cells #[.bool g8, .slice A8 (nats M8).length c8] 35))
 go_upto_region 7 with fail
 clear hk_n1_0_2
 clear hk_n1_1_2
 clear hk_n2_0_2
 clear hk_n2_1_2
 obtain ⟨w8a, hw8a⟩ : ∃ u, (w8.alloc (.cells #[.bool g8, .slice A8 (nats M8).length c8] 35)) = u := ⟨_, rfl⟩
 rw [hw8a] at K_a_4 K_b_4 K_res_4 K_n1_4 K_n2_4 K_n8_4 H_O1_4 H_O2_4 H_O8_4 HB_4 ⊢
 clear hw8a
 have hk_n8_0_4 := K_n8_4.out.cell 0 _ rfl
 have hk_n8_1_4 := K_n8_4.out.cell 1 _ rfl
 have hk_a_0_4 := K_a_4.out.cell 0 _ rfl
 have hk_a_1_4 := K_a_4.out.cell 1 _ rfl
 have hk_a_2_4 := K_a_4.out.cell 2 _ rfl
 have hk_b_0_4 := K_b_4.out.cell 0 _ rfl
 have hk_b_1_4 := K_b_4.out.cell 1 _ rfl
 have hk_b_2_4 := K_b_4.out.cell 2 _ rfl
 have hk_res_0_4 := K_res_4.out.cell 0 _ rfl
 have hk_res_0_4f := K_res_4.out.froz 0 _ rfl
 have hk_res_1_4 := K_res_4.out.cell 1 _ rfl
 have hk_res_1_4f := K_res_4.out.froz 1 _ rfl
 have hk_res_2_4 := K_res_4.out.cell 2 _ rfl
 have hk_res_2_4f := K_res_4.out.froz 2 _ rfl
 go_wp2
 go_region_held3 (fun w' => w'.cell? ⟨w8.heap.size, 0, none⟩ = some (.bool g8) ∧ w'.cell? ⟨w8.heap.size, 1, none⟩ = some (.slice A8 (nats M8).length c8) ∧ w'.cell? ⟨w.heap.size, 0, none⟩ = some (.bool s) ∧ w'.cell? ⟨w.heap.size, 1, none⟩ = some (.slice A n c) ∧ w'.cell? ⟨w.heap.size, 2, none⟩ = some (.slice B m d) ∧ w'.cell? ⟨w.heap.size + 1, 0, none⟩ = some (.bool t) ∧ w'.cell? ⟨w.heap.size + 1, 1, none⟩ = some (.slice C p q) ∧ w'.cell? ⟨w.heap.size + 1, 2, none⟩ = some (.slice E k l)) (go_keep)
   (first
     | (go_at_call_of 102 (Value.slice B m d)
        refine (l02Mul_any B E m d k l bs gs _ (HB.out.below HB_4.out.drew (Nat.le_refl _)).1 (HE.out.below HB_4.out.drew (Nat.le_refl _)).1 Hv.out.2.1.1 Hv2.out.2.1.1 ?_).mono ?_
        omega
        rintro e wm3 ⟨vm3, rfl, ho, hb⟩
        obtain ⟨Am3, cm3, rfl⟩ := ho.shape
        have HOm3 := Lib.hid ho
        clear ho
        have K_a_5 := Lib.hid (K_a_4.out.drew.after hb)
        have K_b_5 := Lib.hid (K_b_4.out.drew.after hb)
        have K_res_5 := Lib.hid (K_res_4.out.drew.after hb)
        have K_n1_5 := Lib.hid (K_n1_4.out.drew.after hb)
        have K_n2_5 := Lib.hid (K_n2_4.out.drew.after hb)
        have K_n8_5 := Lib.hid (K_n8_4.out.drew.after hb)
        have H_O1_5 := Lib.hid (OwnV.below (w := w8a.drew) H_O1_4.out hb)
        have H_O2_5 := Lib.hid (OwnV.below (w := w8a.drew) H_O2_4.out hb)
        have H_O8_5 := Lib.hid (OwnV.below (w := w8a.drew) H_O8_4.out hb)
        have HB_5 := Lib.hid (HB_4.out.drew.trans (hb.mono HB_4.out.drew.size))
        clear hb
        have hk_n8_0_5 := K_n8_5.out.cell 0 _ rfl
        have hk_n8_1_5 := K_n8_5.out.cell 1 _ rfl
        have hk_a_0_5 := K_a_5.out.cell 0 _ rfl
        have hk_a_1_5 := K_a_5.out.cell 1 _ rfl
        have hk_a_2_5 := K_a_5.out.cell 2 _ rfl
        have hk_b_0_5 := K_b_5.out.cell 0 _ rfl
        have hk_b_1_5 := K_b_5.out.cell 1 _ rfl
        have hk_b_2_5 := K_b_5.out.cell 2 _ rfl)
     | (go_at_call 101
        refine (l04Low_let g8 A8 (nats M8).length c8 M8 Am3 _ cm3 (dig (val bs * val gs)) z bv HZ8.out ?_ _ H_O8_5.out.arg HOm3.out.arg HCM8.out.1 (dig_can _).1 HLM8.out ?_ RS RN RD HLS.out HLN.out HLD.out).mono ?_
        rw [val_dig]; exact Hbv.out
        rw [nats_len]; exact HLB.out
        rintro e w9 ⟨v9n, v9d, rfl, hon, hod, apn, apd, hb⟩
        obtain ⟨A9n, c9n, rfl⟩ := hon.shape
        obtain ⟨A9d, c9d, rfl⟩ := hod.shape
        have HO9n := Lib.hid hon
        have HO9d := Lib.hid hod
        have AP_O9n_O9d := Lib.hid apn
        have AP_O9d_O9n := Lib.hid apd
        clear hon hod apn apd
        have K_a_6 := Lib.hid (K_a_5.out.after hb)
        have K_b_6 := Lib.hid (K_b_5.out.after hb)
        have K_res_6 := Lib.hid (K_res_5.out.after hb)
        have K_n1_6 := Lib.hid (K_n1_5.out.after hb)
        have K_n2_6 := Lib.hid (K_n2_5.out.after hb)
        have K_n8_6 := Lib.hid (K_n8_5.out.after hb)
        have H_O1_6 := Lib.hid (OwnV.below (w := wm3) H_O1_5.out hb)
        have H_O2_6 := Lib.hid (OwnV.below (w := wm3) H_O2_5.out hb)
        have H_O8_6 := Lib.hid (OwnV.below (w := wm3) H_O8_5.out hb)
        have H_Om3_6 := Lib.hid (OwnV.below (w := wm3) HOm3.out hb)
        have HB_6 := Lib.hid (HB_5.out.trans (hb.mono HB_5.out.size))
        clear hb
        have hk_n8_0_6 := K_n8_6.out.cell 0 _ rfl
        have hk_n8_1_6 := K_n8_6.out.cell 1 _ rfl
        have hk_a_0_6 := K_a_6.out.cell 0 _ rfl
        have hk_a_1_6 := K_a_6.out.cell 1 _ rfl
        have hk_a_2_6 := K_a_6.out.cell 2 _ rfl
        have hk_b_0_6 := K_b_6.out.cell 0 _ rfl
        have hk_b_1_6 := K_b_6.out.cell 1 _ rfl
        have hk_b_2_6 := K_b_6.out.cell 2 _ rfl
        have hk_res_0_6 := K_res_6.out.cell 0 _ rfl
        have hk_res_0_6f := K_res_6.out.froz 0 _ rfl
        have hk_res_1_6 := K_res_6.out.cell 1 _ rfl
        have hk_res_1_6f := K_res_6.out.froz 1 _ rfl
        have hk_res_2_6 := K_res_6.out.cell 2 _ rfl
        have hk_res_2_6f := K_res_6.out.froz 2 _ rfl))
 go_wp2
 have hr0 := K_res_6.out.cell 0 _ rfl
 have hr1 := K_res_6.out.cell 1 _ rfl
 have hr2 := K_res_6.out.cell 2 _ rfl
 exact bodyPost_ret (v := .agg #[.bool RS, .slice A9n (nats RN).length c9n, .slice A9d (nats RD).length c9d]) (by simp [results, Tryz.results65, go_sem, hr0, hr1, hr2]) rfl (ownRR_close HB_6.out HO9n.out HO9d.out K_res_5.out.lt K_res_5.out.lt (by omega) AP_O9n_O9d.out AP_O9d_O9n.out)
end Go.Proofs.YtaboodioabopnaaGreat
namespace Go.Proofs.YtaboodioabopnaaGreat
open Go.RowKit Nt
set_option linter.unusedVariables false
theorem l04Add_at (s : Bool) (A : Option Addr) (n c : Nat) (ds : List Nat) (B : Option Addr) (m d : Nat) (bs : List Nat) (t : Bool) (C : Option Addr) (p q : Nat) (es : List Nat) (E : Option Addr) (k l : Nat) (gs : List Nat) (z : Int) (bv : Nat) (hz : signed s (val ds) * (val gs : Int) + signed t (val es) * (val bs : Int) = z) (hbv : val bs * val gs = bv) (w : World) (hA : Arg w A n c (nats ds)) (hB : Arg w B m d (nats bs)) (hv : Valid ds bs) (hC : Arg w C p q (nats es)) (hE : Arg w E k l (nats gs)) (hv2 : Valid es gs) :
   Calls Tryz.prog 65 #[.agg #[.bool s, .slice A n c, .slice B m d], .agg #[.bool t, .slice C p q, .slice E k l]] w (OwnRR 3 (loS z bv) (nats (loN z bv)) (nats (loD z bv)) w) := by
 by_cases h1 : isOne bs = true
 · by_cases h2 : isOne gs = true
   · exact l04Add_one s A n c ds B m d bs t C p q es E k l gs z bv hz hbv w hA hB hv hC hE hv2 h1 h2
   · exact l04Add_mix s A n c ds B m d bs t C p q es E k l gs z bv hz hbv w hA hB hv hC hE hv2 h1 (by simpa using h2)
 · exact l04Add_two s A n c ds B m d bs t C p q es E k l gs z bv hz hbv w hA hB hv hC hE hv2 (by simpa using h1)
set_option maxRecDepth 100000 in
set_option maxHeartbeats 4000000 in
theorem ratAdd_spec (s : Bool) (A : Option Addr) (n c : Nat) (xs : List Int) (B : Option Addr) (m d : Nat) (ys : List Int) (t : Bool) (C : Option Addr) (p q : Nat) (us : List Int) (E : Option Addr) (k l : Nat) (vs : List Int) (w : World) (hA : Arg w A n c (ints xs)) (hB : Arg w B m d (ints ys)) (hC : Arg w C p q (ints us)) (hE : Arg w E k l (ints vs)) :
   Calls Tryz.prog 33 #[.agg #[.bool s, .slice A n c, .slice B m d], .agg #[.bool t, .slice C p q, .slice E k l]] w (OwnRR 3 (rtS (okR s xs ys && okR t us vs) (zOf s xs * (val (toN vs) : Int) + zOf t us * (val (toN ys) : Int)) (val (toN ys) * val (toN vs))) (nats (rtN (okR s xs ys && okR t us vs) (zOf s xs * (val (toN vs) : Int) + zOf t us * (val (toN ys) : Int)) (val (toN ys) * val (toN vs)))) (nats (rtD (okR s xs ys && okR t us vs) (zOf s xs * (val (toN vs) : Int) + zOf t us * (val (toN ys) : Int)) (val (toN ys) * val (toN vs)))) w) := by
 obtain ⟨z, hz⟩ : ∃ y9, zOf s xs * (val (toN vs) : Int) + zOf t us * (val (toN ys) : Int) = y9 := ⟨_, rfl⟩
 obtain ⟨bv, hbv⟩ : ∃ y9, val (toN ys) * val (toN vs) = y9 := ⟨_, rfl⟩
 rw [hz, hbv]
 have Hz := Lib.hid hz
 have Hbv := Lib.hid hbv
 clear hz hbv
 obtain ⟨RS, hRS⟩ : ∃ y9, rtS (okR s xs ys && okR t us vs) z bv = y9 := ⟨_, rfl⟩
 obtain ⟨RN, hRN⟩ : ∃ y9, rtN (okR s xs ys && okR t us vs) z bv = y9 := ⟨_, rfl⟩
 obtain ⟨RD, hRD⟩ : ∃ y9, rtD (okR s xs ys && okR t us vs) z bv = y9 := ⟨_, rfl⟩
 rw [hRS, hRN, hRD]
 have HRS := Lib.hid hRS
 have HRN := Lib.hid hRN
 have HRD := Lib.hid hRD
 clear hRS hRN hRD
 have HA := Lib.hid hA
 have HB := Lib.hid hB
 have HC := Lib.hid hC
 have HE := Lib.hid hE
 clear hA hB hC hE
 go_enter Tryz.func33, Tryz.ntmps33
 have HB_0 := Lib.hid ((((Below.refl w.heap.size w).alloc (Nat.le_refl _) (.cells #[.bool s, .slice A n c, .slice B m d] 37)).alloc (by simp) (.cells #[.bool t, .slice C p q, .slice E k l] 37)).alloc (by simp; omega) (.cells #[.bool false, .slice none 0 0, .slice none 0 0] 37))
 have K_a_0 := Lib.hid (((HeldL.new_at w (w.heap.size) [.bool s, .slice A n c, .slice B m d] 37 (by first | rfl | simp)).alloc (.cells #[.bool t, .slice C p q, .slice E k l] 37)).alloc (.cells #[.bool false, .slice none 0 0, .slice none 0 0] 37))
 have K_b_0 := Lib.hid ((HeldL.new_at (w.alloc (.cells #[.bool s, .slice A n c, .slice B m d] 37)) (w.heap.size + 1) [.bool t, .slice C p q, .slice E k l] 37 (by first | rfl | simp)).alloc (.cells #[.bool false, .slice none 0 0, .slice none 0 0] 37))
 have K_res_0 := Lib.hid (HeldL.new_at ((w.alloc (.cells #[.bool s, .slice A n c, .slice B m d] 37)).alloc (.cells #[.bool t, .slice C p q, .slice E k l] 37)) (w.heap.size + 1 + 1) [.bool false, .slice none 0 0, .slice none 0 0] 37 (by first | rfl | simp))
 have hne_a_b : w.heap.size ≠ w.heap.size + 1 := by omega
 have hne_a_res : w.heap.size ≠ w.heap.size + 1 + 1 := by omega
 have hne_b_a : w.heap.size + 1 ≠ w.heap.size := by omega
 have hne_b_res : w.heap.size + 1 ≠ w.heap.size + 1 + 1 := by omega
 have hne_res_a : w.heap.size + 1 + 1 ≠ w.heap.size := by omega
 have hne_res_b : w.heap.size + 1 + 1 ≠ w.heap.size + 1 := by omega
 go_wp2_with fail
 refine (ratOk_spec s A n c xs B m d ys _ (HA.out.below HB_0.out (Nat.le_refl _)) (HB.out.below HB_0.out (Nat.le_refl _))).mono ?_
 rintro e w1 ⟨rfl, hb⟩
 have K_a_1 := Lib.hid (K_a_0.out.after hb)
 have K_b_1 := Lib.hid (K_b_0.out.after hb)
 have K_res_1 := Lib.hid (K_res_0.out.after hb)
 have HB_1 := Lib.hid (HB_0.out.trans (hb.mono HB_0.out.size))
 clear hb
 by_cases hok : okR s xs ys = true
 · rw [hok]
   have hk_b_0_1 := K_b_1.out.cell 0 _ rfl
   have hk_b_1_1 := K_b_1.out.cell 1 _ rfl
   have hk_b_2_1 := K_b_1.out.cell 2 _ rfl
   go_wp2_with fail
   refine (ratOk_spec t C p q us E k l vs _ (HC.out.below HB_1.out (Nat.le_refl _)) (HE.out.below HB_1.out (Nat.le_refl _))).mono ?_
   rintro e w2 ⟨rfl, hb⟩
   have K_a_2 := Lib.hid (K_a_1.out.after hb)
   have K_b_2 := Lib.hid (K_b_1.out.after hb)
   have K_res_2 := Lib.hid (K_res_1.out.after hb)
   have HB_2 := Lib.hid (HB_1.out.trans (hb.mono HB_1.out.size))
   clear hb
   clear hk_b_0_1
   clear hk_b_1_1
   clear hk_b_2_1
   by_cases hok2 : okR t us vs = true
   · rw [hok2]
     obtain ⟨hex, hey, hval⟩ := okR_nats hok
     have HAn := Lib.hid (hex ▸ HA.out)
     have HBn := Lib.hid (hey ▸ HB.out)
     have HV := Lib.hid hval
     have HOK := Lib.hid hok
     clear hex hey hval hok
     obtain ⟨hex, hey, hval⟩ := okR_nats hok2
     have HCn := Lib.hid (hex ▸ HC.out)
     have HEn := Lib.hid (hey ▸ HE.out)
     have HV2 := Lib.hid hval
     have HOK2 := Lib.hid hok2
     clear hex hey hval hok2
     have HLS := Lib.hid (show loS z bv = RS by rw [← HRS.out]; exact (rtS_yes (by rw [HOK.out, HOK2.out]; rfl)).symm)
     have HLN := Lib.hid (show loN z bv = RN by rw [← HRN.out]; exact (rtN_yes (by rw [HOK.out, HOK2.out]; rfl)).symm)
     have HLD := Lib.hid (show loD z bv = RD by rw [← HRD.out]; exact (rtD_yes (by rw [HOK.out, HOK2.out]; rfl)).symm)
     have hk_a_0_2 := K_a_2.out.cell 0 _ rfl
     have hk_a_1_2 := K_a_2.out.cell 1 _ rfl
     have hk_a_2_2 := K_a_2.out.cell 2 _ rfl
     have hk_b_0_2 := K_b_2.out.cell 0 _ rfl
     have hk_b_1_2 := K_b_2.out.cell 1 _ rfl
     have hk_b_2_2 := K_b_2.out.cell 2 _ rfl
     have hk_res_0_2 := K_res_2.out.cell 0 _ rfl
     have hk_res_0_2f := K_res_2.out.froz 0 _ rfl
     have hk_res_1_2 := K_res_2.out.cell 1 _ rfl
     have hk_res_1_2f := K_res_2.out.froz 1 _ rfl
     have hk_res_2_2 := K_res_2.out.cell 2 _ rfl
     have hk_res_2_2f := K_res_2.out.froz 2 _ rfl
     go_wp2_with fail
     have HCM := Lib.hid (l04Add_at s A n c (toN xs) B m d (toN ys) t C p q (toN us) E k l (toN vs) z bv Hz.out Hbv.out _ (HAn.out.below HB_2.out (Nat.le_refl _)) (HBn.out.below HB_2.out (Nat.le_refl _)) HV.out (HCn.out.below HB_2.out (Nat.le_refl _)) (HEn.out.below HB_2.out (Nat.le_refl _)) HV2.out)
     rw [HLS.out, HLN.out, HLD.out] at HCM
     refine (HCM.out).mono ?_
     rintro e w9 ⟨v9n, v9d, rfl, hon, hod, apn, apd, hb⟩
     obtain ⟨A9n, c9n, rfl⟩ := hon.shape
     have HO9n := Lib.hid hon
     obtain ⟨A9d, c9d, rfl⟩ := hod.shape
     have HO9d := Lib.hid hod
     have AP_O9n_O9d := Lib.hid apn
     have AP_O9d_O9n := Lib.hid apd
     clear hon hod apn apd
     have K_a_3 := Lib.hid (K_a_2.out.after hb)
     have K_b_3 := Lib.hid (K_b_2.out.after hb)
     have K_res_3 := Lib.hid (K_res_2.out.after hb)
     have HB_3 := Lib.hid (HB_2.out.trans (hb.mono HB_2.out.size))
     clear hb
     clear hk_a_0_2
     clear hk_a_1_2
     clear hk_a_2_2
     clear hk_b_0_2
     clear hk_b_1_2
     clear hk_b_2_2
     clear hk_res_0_2
     clear hk_res_0_2f
     clear hk_res_1_2
     clear hk_res_1_2f
     clear hk_res_2_2
     clear hk_res_2_2f
     have hk_res_0_3 := K_res_3.out.cell 0 _ rfl
     have hk_res_0_3f := K_res_3.out.froz 0 _ rfl
     have hk_res_1_3 := K_res_3.out.cell 1 _ rfl
     have hk_res_1_3f := K_res_3.out.froz 1 _ rfl
     have hk_res_2_3 := K_res_3.out.cell 2 _ rfl
     have hk_res_2_3f := K_res_3.out.froz 2 _ rfl
     go_wp2
     have hr0 := K_res_3.out.cell 0 _ rfl
     have hr1 := K_res_3.out.cell 1 _ rfl
     have hr2 := K_res_3.out.cell 2 _ rfl
     exact bodyPost_ret (v := .agg #[.bool RS, .slice A9n (nats RN).length c9n, .slice A9d (nats RD).length c9d]) (by simp [results, Tryz.results33, go_sem, hr0, hr1, hr2]) rfl (ownRR_close HB_3.out HO9n.out HO9d.out K_res_2.out.lt K_res_2.out.lt (by omega) AP_O9n_O9d.out AP_O9d_O9n.out)
   · rw [Bool.not_eq_true] at hok2
     rw [hok2]
     obtain rfl : RS = false := by rw [← HRS.out]; exact rtS_no (by rw [hok2, Bool.and_false])
     obtain rfl : RN = [] := by rw [← HRN.out]; exact rtN_no (by rw [hok2, Bool.and_false])
     obtain rfl : RD = [] := by rw [← HRD.out]; exact rtD_no (by rw [hok2, Bool.and_false])
     have hk_res_0_2 := K_res_2.out.cell 0 _ rfl
     have hk_res_0_2f := K_res_2.out.froz 0 _ rfl
     have hk_res_1_2 := K_res_2.out.cell 1 _ rfl
     have hk_res_1_2f := K_res_2.out.froz 1 _ rfl
     have hk_res_2_2 := K_res_2.out.cell 2 _ rfl
     have hk_res_2_2f := K_res_2.out.froz 2 _ rfl
     go_wp2
     have hr0 := K_res_2.out.cell 0 _ rfl
     have hr1 := K_res_2.out.cell 1 _ rfl
     have hr2 := K_res_2.out.cell 2 _ rfl
     refine bodyPost_ret (v := .agg #[.bool false, .slice none 0 0, .slice none 0 0]) (by simp [results, Tryz.results33, go_sem, hr0, hr1, hr2]) rfl ?_
     exact ownRR_close HB_2.out (OwnV.nil _ (w.heap.size + 1 + 1 + 1) _) (OwnV.nil _ (w.heap.size + 1 + 1 + 1) _) (Nat.lt_succ_self _) (Nat.lt_succ_self _) (by omega) (.inl rfl) (.inl rfl)
 · rw [Bool.not_eq_true] at hok
   rw [hok]
   obtain rfl : RS = false := by rw [← HRS.out]; exact rtS_no (by rw [hok, Bool.false_and])
   obtain rfl : RN = [] := by rw [← HRN.out]; exact rtN_no (by rw [hok, Bool.false_and])
   obtain rfl : RD = [] := by rw [← HRD.out]; exact rtD_no (by rw [hok, Bool.false_and])
   have hk_res_0_1 := K_res_1.out.cell 0 _ rfl
   have hk_res_0_1f := K_res_1.out.froz 0 _ rfl
   have hk_res_1_1 := K_res_1.out.cell 1 _ rfl
   have hk_res_1_1f := K_res_1.out.froz 1 _ rfl
   have hk_res_2_1 := K_res_1.out.cell 2 _ rfl
   have hk_res_2_1f := K_res_1.out.froz 2 _ rfl
   go_wp2
   have hr0 := K_res_1.out.cell 0 _ rfl
   have hr1 := K_res_1.out.cell 1 _ rfl
   have hr2 := K_res_1.out.cell 2 _ rfl
   refine bodyPost_ret (v := .agg #[.bool false, .slice none 0 0, .slice none 0 0]) (by simp [results, Tryz.results33, go_sem, hr0, hr1, hr2]) rfl ?_
   exact ownRR_close HB_1.out (OwnV.nil _ (w.heap.size + 1 + 1 + 1) _) (OwnV.nil _ (w.heap.size + 1 + 1 + 1) _) (Nat.lt_succ_self _) (Nat.lt_succ_self _) (by omega) (.inl rfl) (.inl rfl)
end Go.Proofs.YtaboodioabopnaaGreat
namespace Go.Proofs.YtaboodioabopnaaGreat
open Go.RowKit Nt
set_option linter.unusedVariables false
end Go.Proofs.YtaboodioabopnaaGreat
