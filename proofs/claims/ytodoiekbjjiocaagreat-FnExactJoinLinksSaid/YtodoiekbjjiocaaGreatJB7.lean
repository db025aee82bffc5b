/- Joined: XRat3done XRat3dtwo XRat3dmix XRat3d XRat3e. Conditions: none. -/
import Derived.Test.YtodoiekbjjiocaaGreatJPk
import Derived.Test.YtodoiekbjjiocaaGreatProg
import Derived.Test.YtodoiekbjjiocaaGreatJB5
import Derived.Test.YtodoiekbjjiocaaGreatJB1
import Derived.Deep.DeepCutAuto
import Derived.Test.YtodoiekbjjiocaaGreatJB4
import Derived.Test.YtodoiekbjjiocaaGreatJB2
namespace Go.Proofs.YtodoiekbjjiocaaGreat
open Go.RowKit Nt
set_option linter.unusedVariables false
set_option maxRecDepth 100000
set_option maxHeartbeats 4000000
theorem l04Add_one (s : Bool) (A : Option Addr) (n c : Nat) (ds : List Nat) (B : Option Addr) (m d : Nat) (bs : List Nat) (t : Bool) (C : Option Addr) (p q : Nat) (es : List Nat) (E : Option Addr) (k l : Nat) (gs : List Nat) (z : Int) (bv : Nat) (hz : signed s (val ds) * (val gs : Int) + signed t (val es) * (val bs : Int) = z) (hbv : val bs * val gs = bv) (w : World) (hA : Arg w A n c (nats ds)) (hB : Arg w B m d (nats bs)) (hv : Valid ds bs) (hC : Arg w C p q (nats es)) (hE : Arg w E k l (nats gs)) (hv2 : Valid es gs) (h1 : isOne bs = true) (h2 : isOne gs = true) :
 Calls Tryz.prog 65 #[.agg #[.bool s,.slice A n c,.slice B m d],.agg #[.bool t,.slice C p q,.slice E k l]] w (OwnRR 3 (loS z bv) (nats (loN z bv)) (nats (loD z bv)) w):=by
 obtain ⟨RS,hRS⟩ : ∃ y9,loS z bv = y9:=⟨_,rfl⟩
 obtain ⟨RN,hRN⟩ : ∃ y9,loN z bv = y9:=⟨_,rfl⟩
 obtain ⟨RD,hRD⟩ : ∃ y9,loD z bv = y9:=⟨_,rfl⟩
 rw [hRS,hRN,hRD]
 have HLS:=Hd hRS
 have HLN:=Hd hRN
 have HLD:=Hd hRD
 clear hRS hRN hRD
 have hn : n ≤ 24:=by have:=hA.nlen; have:=hv.2.2.1; omega
 have hm : m ≤ 24:=by have:=hB.nlen; have:=hv.2.2.2.1; omega
 have hp : p ≤ 24:=by have:=hC.nlen; have:=hv2.2.2.1; omega
 have hk : k ≤ 24:=by have:=hE.nlen; have:=hv2.2.2.2.1; omega
 have HBZ:=Hd (show z.natAbs < 1000000000 ^ 60 by rw [← hz]; exact add_small hv hv2)
 obtain ⟨z1,hz1⟩ : ∃ y9,signed s (val ds) * (val gs : Int) = y9:=⟨_,rfl⟩
 obtain ⟨z2,hz2⟩ : ∃ y9,signed t (val es) * (val bs : Int) = y9:=⟨_,rfl⟩
 have HBK1:=Hd (show signed (sgZ z1) (val (magZ z1)) = z1 by rw [← hz1]; exact back_z (one_small hv.1 hv.2.2.1 hv2.2.1 hv2.2.2.2.1))
 have HBK2:=Hd (show signed (sgZ z2) (val (magZ z2)) = z2 by rw [← hz2]; exact back_z (one_small hv2.1 hv2.2.2.1 hv.2.1 hv.2.2.2.1))
 have HZ1:=Hd (show signed s (val (dig (val ds * val gs))) = z1 by rw [val_dig,signed_z]; exact hz1)
 have HZ2:=Hd (show signed t (val (dig (val es * val bs))) = z2 by rw [val_dig,signed_z]; exact hz2)
 have HZO:=Hd (show val bs = 1 → val gs = 1 → signed s (val ds) + signed t (val es) = z by intro h1 h2; rw [← hz,h1,h2]; simp)
 have HBO:=Hd (show val bs = 1 → val gs = 1 → val [1] = bv by intro h1 h2; rw [← hbv,h1,h2]; rfl)
 obtain ⟨g1,hg1⟩ : ∃ y9,sgZ z1 = y9:=⟨_,rfl⟩
 obtain ⟨g2,hg2⟩ : ∃ y9,sgZ z2 = y9:=⟨_,rfl⟩
 obtain ⟨g8,hg8⟩ : ∃ y9,sgZ z = y9:=⟨_,rfl⟩
 obtain ⟨M1,hM1⟩ : ∃ y9,magZ z1 = y9:=⟨_,rfl⟩
 obtain ⟨M2,hM2⟩ : ∃ y9,magZ z2 = y9:=⟨_,rfl⟩
 obtain ⟨M8,hM8⟩ : ∃ y9,magZ z = y9:=⟨_,rfl⟩
 have HCM1:=Hd (hM1 ▸ magZ_can z1)
 have HCM2:=Hd (hM2 ▸ magZ_can z2)
 have HCM8:=Hd (hM8 ▸ magZ_can z)
 have HLM1:=Hd (show (nats M1).length ≤ 60 by rw [nats_len,← hM1]; exact capd_len _)
 have HLM2:=Hd (show (nats M2).length ≤ 60 by rw [nats_len,← hM2]; exact capd_len _)
 have HLM8:=Hd (show (nats M8).length ≤ 60 by rw [nats_len,← hM8]; exact capd_len _)
 have HSUM:=Hd (show signed g1 (val M1) + signed g2 (val M2) = z by rw [← hg1,← hg2,← hM1,← hM2,HBK1.out,HBK2.out,← hz1,← hz2]; exact hz)
 have HZ8:=Hd (show signed g8 (val M8) = z by rw [← hg8,← hM8]; exact back_z HBZ.out)
 have HLB:=Hd (mul_len hv.2.1 hv.2.2.2.1 hv2.2.1 hv2.2.2.2.1)
 clear hz hz1 hz2
 have Hg1:=Hd hg1
 have Hg2:=Hd hg2
 have Hg8:=Hd hg8
 have bW:=Hd hM1
 have bX:=Hd hM2
 have bV:=Hd hM8
 clear hg1 hg2 hg8 hM1 hM2 hM8
 have HA:=Hd hA
 have HB:=Hd hB
 have HC:=Hd hC
 have HE:=Hd hE
 have Hv:=Hd hv
 have Hv2:=Hd hv2
 have Hbv:=Hd hbv
 clear hA hB hC hE hv hv2 hbv
 go_enter Tryz.func65,Tryz.ntmps65
 have aI:=Hd ((((Below.refl w.heap.size w).alloc (Nat.le_refl _) (.cells #[.bool s,.slice A n c,.slice B m d] 35)).alloc (by simp) (.cells #[.bool t,.slice C p q,.slice E k l] 35)).alloc (by simp; omega) (.cells #[.bool false,.slice none 0 0,.slice none 0 0] 35))
 have bD:=Hd (((HeldL.new_at w (w.heap.size) [.bool s,.slice A n c,.slice B m d] 35 (by first | rfl | simp)).alloc (.cells #[.bool t,.slice C p q,.slice E k l] 35)).alloc (.cells #[.bool false,.slice none 0 0,.slice none 0 0] 35))
 have bE:=Hd ((HeldL.new_at (w.alloc (.cells #[.bool s,.slice A n c,.slice B m d] 35)) (w.heap.size + 1) [.bool t,.slice C p q,.slice E k l] 35 (by first | rfl | simp)).alloc (.cells #[.bool false,.slice none 0 0,.slice none 0 0] 35))
 have aO:=Hd (HeldL.new_at ((w.alloc (.cells #[.bool s,.slice A n c,.slice B m d] 35)).alloc (.cells #[.bool t,.slice C p q,.slice E k l] 35)) (w.heap.size + 1 + 1) [.bool false,.slice none 0 0,.slice none 0 0] 35 (by first | rfl | simp))
 have bN : w.heap.size ≠ w.heap.size + 1:=by omega
 have a5 : w.heap.size ≠ w.heap.size + 1 + 1:=by omega
 have bO : w.heap.size + 1 ≠ w.heap.size:=by omega
 have a6 : w.heap.size + 1 ≠ w.heap.size + 1 + 1:=by omega
 have a7 : w.heap.size + 1 + 1 ≠ w.heap.size:=by omega
 have a8 : w.heap.size + 1 + 1 ≠ w.heap.size + 1:=by omega
 go_wp2_with fail
 refine (l04One_any B m d bs _ (HB.out.below aI.out (Nat.le_refl _)).1 HB.out.max).mono ?_
 rintro e w1 ⟨rfl,rfl⟩
 rw [h1]
 go_wp2_with fail
 refine (l04One_any E k l gs _ (HE.out.below aI.out (Nat.le_refl _)).1 HE.out.max).mono ?_
 rintro e w1 ⟨rfl,rfl⟩
 rw [h2]
 have HO1:=Hd (show val bs = 1 by rw [isOne_yes h1]; rfl)
 have HO2:=Hd (show val gs = 1 by rw [isOne_yes h2]; rfl)
 clear h1 h2
 go_wp2_with fail
 refine (l03Add_let s t A C n c p q ds es z g8 M8 (HZO.out HO1.out HO2.out) Hg8.out bV.out _ (HA.out.below aI.out (Nat.le_refl _)) (HC.out.below aI.out (Nat.le_refl _)) Hv.out.1 Hv2.out.1 (by omega) (by omega)).mono ?_
 rintro e w8 ⟨v8,rfl,ho,hb⟩
 obtain ⟨A8,c8,rfl⟩:=ho.shape
 have HO8:=Hd ho
 clear ho
 have aL:=Hd (bD.out.after hb)
 have aM:=Hd (bE.out.after hb)
 have aD:=Hd (aO.out.after hb)
 have bF:=Hd (aI.out.trans (hb.mono aI.out.size))
 clear hb
 have aF:=Hd (aL.out.alloc (.cells #[.bool g8,.slice A8 (nats M8).length c8] 33))
 have bG : w.heap.size ≠ w8.heap.size:=by have:=aL.out.lt; omega
 have bH : w8.heap.size ≠ w.heap.size:=by have:=aL.out.lt; omega
 have aG:=Hd (aM.out.alloc (.cells #[.bool g8,.slice A8 (nats M8).length c8] 33))
 have bI : w.heap.size + 1 ≠ w8.heap.size:=by have:=aM.out.lt; omega
 have bJ : w8.heap.size ≠ w.heap.size + 1:=by have:=aM.out.lt; omega
 have aB:=Hd (aD.out.alloc (.cells #[.bool g8,.slice A8 (nats M8).length c8] 33))
 have aV : w.heap.size + 1 + 1 ≠ w8.heap.size:=by have:=aD.out.lt; omega
 have aW : w8.heap.size ≠ w.heap.size + 1 + 1:=by have:=aD.out.lt; omega
 have aC:=Hd (HeldL.new w8 [.bool g8,.slice A8 (nats M8).length c8] 33)
 have aN:=Hd (OwnV.below HO8.out ((Below.refl _ w8).alloc (Nat.le_refl _) (.cells #[.bool g8,.slice A8 (nats M8).length c8] 33)))
 have aX:=Hd (bF.out.alloc bF.out.size (.cells #[.bool g8,.slice A8 (nats M8).length c8] 33))
 go_upto_region 3 with fail
 obtain ⟨w8a,hw8a⟩ : ∃ u,(w8.alloc (.cells #[.bool g8,.slice A8 (nats M8).length c8] 33)) = u:=⟨_,rfl⟩
 rw [hw8a] at aF aG aB aC aN aX ⊢
 clear hw8a
 obtain ⟨aJ,aK⟩:=aC.out.c2
 go_wp2_with fail
 clear aJ
 clear aK
 have HR1:=Hd (one_row w8a 3)
 have bK:=Hd (aF.out.alloc (.cells #[.int .i64 1] 3))
 have a9 : w.heap.size ≠ w8a.heap.size:=by have:=aF.out.lt; omega
 have bA : w8a.heap.size ≠ w.heap.size:=by have:=aF.out.lt; omega
 have bL:=Hd (aG.out.alloc (.cells #[.int .i64 1] 3))
 have bB : w.heap.size + 1 ≠ w8a.heap.size:=by have:=aG.out.lt; omega
 have bC : w8a.heap.size ≠ w.heap.size + 1:=by have:=aG.out.lt; omega
 have aE:=Hd (aB.out.alloc (.cells #[.int .i64 1] 3))
 have aQ : w.heap.size + 1 + 1 ≠ w8a.heap.size:=by have:=aB.out.lt; omega
 have aR : w8a.heap.size ≠ w.heap.size + 1 + 1:=by have:=aB.out.lt; omega
 have aY:=Hd (aC.out.alloc (.cells #[.int .i64 1] 3))
 have aZ : w8.heap.size ≠ w8a.heap.size:=by have:=aC.out.lt; omega
 have a0 : w8a.heap.size ≠ w8.heap.size:=by have:=aC.out.lt; omega
 have aP:=Hd (HeldL.new w8a [.int .i64 1] 3)
 have aA:=Hd (OwnV.below aN.out ((Below.refl _ w8a).alloc (Nat.le_refl _) (.cells #[.int .i64 1] 3)))
 have bM:=Hd (aX.out.alloc aX.out.size (.cells #[.int .i64 1] 3))
 refine (l04Low_let g8 A8 (nats M8).length c8 M8 _ 1 1 [1] z bv HZ8.out (HBO.out HO1.out HO2.out) _ aA.out.arg HR1.out HCM8.out.1 (by intro x hx; simp at hx; subst hx; decide) HLM8.out (by decide) RS RN RD HLS.out HLN.out HLD.out).mono ?_
 rintro e w9 ⟨v9n,v9d,rfl,hon,hod,apn,apd,hb⟩
 obtain ⟨A9n,c9n,rfl⟩:=hon.shape
 have HO9n:=Hd hon
 have AP_O8_O9n:=Hd (OwnV.apart aA.out hon (Nat.le_refl _))
 have AP_O9n_O8:=Hd (OwnV.apart' hon aA.out (Nat.le_refl _))
 obtain ⟨A9d,c9d,rfl⟩:=hod.shape
 have HO9d:=Hd hod
 have AP_O8_O9d:=Hd (OwnV.apart aA.out hod (Nat.le_refl _))
 have AP_O9d_O8:=Hd (OwnV.apart' hod aA.out (Nat.le_refl _))
 have AP_O9n_O9d:=Hd apn
 have AP_O9d_O9n:=Hd apd
 clear hon hod apn apd
 have bT:=Hd (bK.out.after hb)
 have bU:=Hd (bL.out.after hb)
 have aH:=Hd (aE.out.after hb)
 have bQ:=Hd (aY.out.after hb)
 have bP:=Hd (aP.out.after hb)
 have bR:=Hd (OwnV.below (w:=(w8a.alloc (.cells #[.int .i64 1] 3))) aA.out hb)
 have bS:=Hd (bM.out.trans (hb.mono bM.out.size))
 clear hb
 obtain ⟨a2,aS,a3,aT,a4,aU⟩:=aH.out.g3
 go_wp2
 obtain ⟨hr0,hr1,hr2⟩:=aH.out.c3
 exact bodyPost_ret (v:=.agg #[.bool RS,.slice A9n (nats RN).length c9n,.slice A9d (nats RD).length c9d]) (by simp [results,Tryz.results65,go_sem,hr0,hr1,hr2]) rfl (ownRR_close bS.out HO9n.out HO9d.out aE.out.lt aE.out.lt (by omega) AP_O9n_O9d.out AP_O9d_O9n.out)
end Go.Proofs.YtodoiekbjjiocaaGreat
namespace Go.Proofs.YtodoiekbjjiocaaGreat
open Go.RowKit Nt
set_option linter.unusedVariables false
set_option maxRecDepth 100000
set_option maxHeartbeats 4000000
theorem l04Add_two (s : Bool) (A : Option Addr) (n c : Nat) (ds : List Nat) (B : Option Addr) (m d : Nat) (bs : List Nat) (t : Bool) (C : Option Addr) (p q : Nat) (es : List Nat) (E : Option Addr) (k l : Nat) (gs : List Nat) (z : Int) (bv : Nat) (hz : signed s (val ds) * (val gs : Int) + signed t (val es) * (val bs : Int) = z) (hbv : val bs * val gs = bv) (w : World) (hA : Arg w A n c (nats ds)) (hB : Arg w B m d (nats bs)) (hv : Valid ds bs) (hC : Arg w C p q (nats es)) (hE : Arg w E k l (nats gs)) (hv2 : Valid es gs) (h1 : isOne bs = false) :
 Calls Tryz.prog 65 #[.agg #[.bool s,.slice A n c,.slice B m d],.agg #[.bool t,.slice C p q,.slice E k l]] w (OwnRR 3 (loS z bv) (nats (loN z bv)) (nats (loD z bv)) w):=by
 obtain ⟨RS,hRS⟩ : ∃ y9,loS z bv = y9:=⟨_,rfl⟩
 obtain ⟨RN,hRN⟩ : ∃ y9,loN z bv = y9:=⟨_,rfl⟩
 obtain ⟨RD,hRD⟩ : ∃ y9,loD z bv = y9:=⟨_,rfl⟩
 rw [hRS,hRN,hRD]
 have HLS:=Hd hRS
 have HLN:=Hd hRN
 have HLD:=Hd hRD
 clear hRS hRN hRD
 have hn : n ≤ 24:=by have:=hA.nlen; have:=hv.2.2.1; omega
 have hm : m ≤ 24:=by have:=hB.nlen; have:=hv.2.2.2.1; omega
 have hp : p ≤ 24:=by have:=hC.nlen; have:=hv2.2.2.1; omega
 have hk : k ≤ 24:=by have:=hE.nlen; have:=hv2.2.2.2.1; omega
 have HBZ:=Hd (show z.natAbs < 1000000000 ^ 60 by rw [← hz]; exact add_small hv hv2)
 obtain ⟨z1,hz1⟩ : ∃ y9,signed s (val ds) * (val gs : Int) = y9:=⟨_,rfl⟩
 obtain ⟨z2,hz2⟩ : ∃ y9,signed t (val es) * (val bs : Int) = y9:=⟨_,rfl⟩
 have HBK1:=Hd (show signed (sgZ z1) (val (magZ z1)) = z1 by rw [← hz1]; exact back_z (one_small hv.1 hv.2.2.1 hv2.2.1 hv2.2.2.2.1))
 have HBK2:=Hd (show signed (sgZ z2) (val (magZ z2)) = z2 by rw [← hz2]; exact back_z (one_small hv2.1 hv2.2.2.1 hv.2.1 hv.2.2.2.1))
 have HZ1:=Hd (show signed s (val (dig (val ds * val gs))) = z1 by rw [val_dig,signed_z]; exact hz1)
 have HZ2:=Hd (show signed t (val (dig (val es * val bs))) = z2 by rw [val_dig,signed_z]; exact hz2)
 have HZO:=Hd (show val bs = 1 → val gs = 1 → signed s (val ds) + signed t (val es) = z by intro h1 h2; rw [← hz,h1,h2]; simp)
 have HBO:=Hd (show val bs = 1 → val gs = 1 → val [1] = bv by intro h1 h2; rw [← hbv,h1,h2]; rfl)
 obtain ⟨g1,hg1⟩ : ∃ y9,sgZ z1 = y9:=⟨_,rfl⟩
 obtain ⟨g2,hg2⟩ : ∃ y9,sgZ z2 = y9:=⟨_,rfl⟩
 obtain ⟨g8,hg8⟩ : ∃ y9,sgZ z = y9:=⟨_,rfl⟩
 obtain ⟨M1,hM1⟩ : ∃ y9,magZ z1 = y9:=⟨_,rfl⟩
 obtain ⟨M2,hM2⟩ : ∃ y9,magZ z2 = y9:=⟨_,rfl⟩
 obtain ⟨M8,hM8⟩ : ∃ y9,magZ z = y9:=⟨_,rfl⟩
 have HCM1:=Hd (hM1 ▸ magZ_can z1)
 have HCM2:=Hd (hM2 ▸ magZ_can z2)
 have HCM8:=Hd (hM8 ▸ magZ_can z)
 have HLM1:=Hd (show (nats M1).length ≤ 60 by rw [nats_len,← hM1]; exact capd_len _)
 have HLM2:=Hd (show (nats M2).length ≤ 60 by rw [nats_len,← hM2]; exact capd_len _)
 have HLM8:=Hd (show (nats M8).length ≤ 60 by rw [nats_len,← hM8]; exact capd_len _)
 have HSUM:=Hd (show signed g1 (val M1) + signed g2 (val M2) = z by rw [← hg1,← hg2,← hM1,← hM2,HBK1.out,HBK2.out,← hz1,← hz2]; exact hz)
 have HZ8:=Hd (show signed g8 (val M8) = z by rw [← hg8,← hM8]; exact back_z HBZ.out)
 have HLB:=Hd (mul_len hv.2.1 hv.2.2.2.1 hv2.2.1 hv2.2.2.2.1)
 clear hz hz1 hz2
 have Hg1:=Hd hg1
 have Hg2:=Hd hg2
 have Hg8:=Hd hg8
 have eG:=Hd hM1
 have eH:=Hd hM2
 have eI:=Hd hM8
 clear hg1 hg2 hg8 hM1 hM2 hM8
 have HA:=Hd hA
 have HB:=Hd hB
 have HC:=Hd hC
 have HE:=Hd hE
 have Hv:=Hd hv
 have Hv2:=Hd hv2
 have Hbv:=Hd hbv
 clear hA hB hC hE hv hv2 hbv
 go_enter Tryz.func65,Tryz.ntmps65
 have aB:=Hd ((((Below.refl w.heap.size w).alloc (Nat.le_refl _) (.cells #[.bool s,.slice A n c,.slice B m d] 35)).alloc (by simp) (.cells #[.bool t,.slice C p q,.slice E k l] 35)).alloc (by simp; omega) (.cells #[.bool false,.slice none 0 0,.slice none 0 0] 35))
 have aQ:=Hd (((HeldL.new_at w (w.heap.size) [.bool s,.slice A n c,.slice B m d] 35 (by first | rfl | simp)).alloc (.cells #[.bool t,.slice C p q,.slice E k l] 35)).alloc (.cells #[.bool false,.slice none 0 0,.slice none 0 0] 35))
 have aR:=Hd ((HeldL.new_at (w.alloc (.cells #[.bool s,.slice A n c,.slice B m d] 35)) (w.heap.size + 1) [.bool t,.slice C p q,.slice E k l] 35 (by first | rfl | simp)).alloc (.cells #[.bool false,.slice none 0 0,.slice none 0 0] 35))
 have aD:=Hd (HeldL.new_at ((w.alloc (.cells #[.bool s,.slice A n c,.slice B m d] 35)).alloc (.cells #[.bool t,.slice C p q,.slice E k l] 35)) (w.heap.size + 1 + 1) [.bool false,.slice none 0 0,.slice none 0 0] 35 (by first | rfl | simp))
 have d7 : w.heap.size ≠ w.heap.size + 1:=by omega
 have cR : w.heap.size ≠ w.heap.size + 1 + 1:=by omega
 have d8 : w.heap.size + 1 ≠ w.heap.size:=by omega
 have cS : w.heap.size + 1 ≠ w.heap.size + 1 + 1:=by omega
 have cT : w.heap.size + 1 + 1 ≠ w.heap.size:=by omega
 have cU : w.heap.size + 1 + 1 ≠ w.heap.size + 1:=by omega
 go_wp2_with fail
 refine (l04One_any B m d bs _ (HB.out.below aB.out (Nat.le_refl _)).1 HB.out.max).mono ?_
 rintro e w1 ⟨rfl,rfl⟩
 rw [h1]
 clear h1
 obtain ⟨w4,hw4⟩ : ∃ u,(((w.alloc (.cells #[.bool s,.slice A n c,.slice B m d] 35)).alloc (.cells #[.bool t,.slice C p q,.slice E k l] 35)).alloc (.cells #[.bool false,.slice none 0 0,.slice none 0 0] 35)) = u:=⟨_,rfl⟩
 rw [hw4] at aQ aR aD aB ⊢
 clear hw4
 obtain ⟨bA,bB,bC⟩:=aQ.out.c3
 obtain ⟨bD,bE,bF⟩:=aR.out.c3
 go_upto_region 4 with fail
 go_cut [6] (fun ptr wx=>∃ b A1 c1,ptr = .pointer (some ⟨b,0,none⟩) ∧ HeldL wx b [.bool g1,.slice A1 (nats M1).length c1] ∧ OwnV wx w.heap.size 3 (.slice A1 (nats M1).length c1) (nats M1) ∧ HeldL wx (w.heap.size) [.bool s,.slice A n c,.slice B m d] ∧ HeldL wx (w.heap.size + 1) [.bool t,.slice C p q,.slice E k l] ∧ HeldL wx (w.heap.size + 1 + 1) [.bool false,.slice none 0 0,.slice none 0 0] ∧ Below w.heap.size w wx)
 case first=>
  go_region_held3 (fun w' =>w'.cell? ⟨w.heap.size,0,none⟩ = some (.bool s) ∧ w'.cell? ⟨w.heap.size,1,none⟩ = some (.slice A n c) ∧ w'.cell? ⟨w.heap.size,2,none⟩ = some (.slice B m d) ∧ w'.cell? ⟨w.heap.size + 1,0,none⟩ = some (.bool t) ∧ w'.cell? ⟨w.heap.size + 1,1,none⟩ = some (.slice C p q) ∧ w'.cell? ⟨w.heap.size + 1,2,none⟩ = some (.slice E k l)) (go_keep)
   (first
     |(go_at_call 81
       refine (l02Mul_any A E n c k l ds gs _ ?_ ?_ Hv.out.1.1 Hv2.out.2.1.1 ?_).mono ?_
       first | exact (HA.out.below aB.out.drew (Nat.le_refl _)).1 | exact (HA.out.below (aB.out.alloc aB.out.size (.cells #[.bool false,.slice none 0 0] 33)).drew (Nat.le_refl _)).1
       first | exact (HE.out.below aB.out.drew (Nat.le_refl _)).1 | exact (HE.out.below (aB.out.alloc aB.out.size (.cells #[.bool false,.slice none 0 0] 33)).drew (Nat.le_refl _)).1
       omega
       rintro e u1 ⟨vm1,rfl,ho,hb⟩
       obtain ⟨Am1,cm1,rfl⟩:=ho.shape
       first | (have KN1:=Hd ((HeldL.new w4 [.bool false,.slice none 0 0] 33).drew.after hb); have HLN1:=Hd (HeldL.new w4 [.bool false,.slice none 0 0] 33).lt; have HGN:=Hd aB.out.size; have NE_a:=Hd (Nat.ne_of_lt aQ.out.lt); have NE_b:=Hd (Nat.ne_of_lt aR.out.lt); have NE_res:=Hd (Nat.ne_of_lt aD.out.lt)) | skip
       have T9 : HeldL u1 (w.heap.size) [.bool s,.slice A n c,.slice B m d]:=by first | exact aQ.out.drew.after hb | exact (aQ.out.alloc (.cells #[.bool false,.slice none 0 0] 33)).drew.after hb
       have KK_a_1:=Hd T9
       clear T9
       have T9 : HeldL u1 (w.heap.size + 1) [.bool t,.slice C p q,.slice E k l]:=by first | exact aR.out.drew.after hb | exact (aR.out.alloc (.cells #[.bool false,.slice none 0 0] 33)).drew.after hb
       have KK_b_1:=Hd T9
       clear T9
       have T9 : HeldL u1 (w.heap.size + 1 + 1) [.bool false,.slice none 0 0,.slice none 0 0]:=by first | exact aD.out.drew.after hb | exact (aD.out.alloc (.cells #[.bool false,.slice none 0 0] 33)).drew.after hb
       have KK_res_1:=Hd T9
       clear T9
       have T9 : OwnV u1 w.heap.size 3 (.slice Am1 (nats (dig (val ds * val gs))).length cm1) (nats (dig (val ds * val gs))):=by first | exact ho.based aB.out.drew.size | exact ho.based (aB.out.alloc aB.out.size (.cells #[.bool false,.slice none 0 0] 33)).drew.size
       have aE:=Hd T9
       clear T9 ho
       have T9 : Below w.heap.size w u1:=by first | exact (aB.out.drew).trans (hb.mono (aB.out.drew).size) | exact ((aB.out.alloc aB.out.size (.cells #[.bool false,.slice none 0 0] 33)).drew).trans (hb.mono ((aB.out.alloc aB.out.size (.cells #[.bool false,.slice none 0 0] 33)).drew).size)
       have aA:=Hd T9
       clear T9 hb
       obtain ⟨aJ,aK,aL⟩:=KK_a_1.out.c3
       obtain ⟨aM,aN⟩:=KK_b_1.out.c2
       have aO:=KK_b_1.out.cell 2 _ rfl)
     |(go_at_call 84
       refine (l03Make_let s Am1 _ cm1 (dig (val ds * val gs)) z1 g1 M1 HZ1.out Hg1.out eG.out _ ?_ (dig_can _).1).mono ?_
       first | exact (aE.out).arg | exact (OwnV.below aE.out ((Below.refl _ u1).alloc (Nat.le_refl _) (.cells #[.bool false,.slice none 0 0] 33))).arg
       rintro e u2 ⟨v1,rfl,ho,hb⟩
       obtain ⟨A1,c1,rfl⟩:=ho.shape
       first | (have KN2:=Hd (KN1.out.after hb); have HLN2:=Hd KN1.out.lt) | (have KN2:=Hd ((HeldL.new u1 [.bool false,.slice none 0 0] 33).after hb); have HLN2:=Hd (HeldL.new u1 [.bool false,.slice none 0 0] 33).lt; have HGN:=Hd aA.out.size; have NE_a:=Hd (Nat.ne_of_lt KK_a_1.out.lt); have NE_b:=Hd (Nat.ne_of_lt KK_b_1.out.lt); have NE_res:=Hd (Nat.ne_of_lt KK_res_1.out.lt)) | skip
       have T9 : HeldL u2 (w.heap.size) [.bool s,.slice A n c,.slice B m d]:=by first | exact KK_a_1.out.after hb | exact (KK_a_1.out.alloc (.cells #[.bool false,.slice none 0 0] 33)).after hb
       have KK_a_2:=Hd T9
       clear T9
       have T9 : HeldL u2 (w.heap.size + 1) [.bool t,.slice C p q,.slice E k l]:=by first | exact KK_b_1.out.after hb | exact (KK_b_1.out.alloc (.cells #[.bool false,.slice none 0 0] 33)).after hb
       have KK_b_2:=Hd T9
       clear T9
       have T9 : HeldL u2 (w.heap.size + 1 + 1) [.bool false,.slice none 0 0,.slice none 0 0]:=by first | exact KK_res_1.out.after hb | exact (KK_res_1.out.alloc (.cells #[.bool false,.slice none 0 0] 33)).after hb
       have KK_res_2:=Hd T9
       clear T9
       have T9 : OwnV u2 w.heap.size 3 (.slice Am1 (nats (dig (val ds * val gs))).length cm1) (nats (dig (val ds * val gs))):=by first | exact OwnV.below (w:=u1) aE.out hb | exact OwnV.below (w:=(u1.alloc (.cells #[.bool false,.slice none 0 0] 33))) (OwnV.below aE.out ((Below.refl _ u1).alloc (Nat.le_refl _) (.cells #[.bool false,.slice none 0 0] 33))) hb
       have c9:=Hd T9
       clear T9
       have HOn:=Hd ho
       have T9 : OwnV u2 w.heap.size 3 (.slice A1 (nats M1).length c1) (nats M1):=by first | exact ho.based aA.out.size | exact ho.based (aA.out.alloc aA.out.size (.cells #[.bool false,.slice none 0 0] 33)).size
       have aG:=Hd T9
       clear T9 ho
       have T9 : Below w.heap.size w u2:=by first | exact (aA.out).trans (hb.mono (aA.out).size) | exact ((aA.out.alloc aA.out.size (.cells #[.bool false,.slice none 0 0] 33))).trans (hb.mono ((aA.out.alloc aA.out.size (.cells #[.bool false,.slice none 0 0] 33))).size)
       have aP:=Hd T9
       clear T9 hb
       obtain ⟨bG,bH,bI⟩:=KK_a_2.out.c3
       obtain ⟨bJ,bK,bL⟩:=KK_b_2.out.c3
       try have hkn0:=KN2.out.cell 0 _ rfl
       try have hkf0:=KN2.out.froz 0 _ rfl
       try have hkn1:=KN2.out.cell 1 _ rfl
       try have hkf1:=KN2.out.froz 1 _ rfl
       try have dA:=NE_a.out
       try have hnf_a:=NE_a.out.symm
       try have dB:=NE_b.out
       try have hnf_b:=NE_b.out.symm))
  all_goals go_wp2_with fail
  all_goals go_meet
  all_goals refine ⟨_,A1,c1,rfl,?_,?_,?_,?_,?_,?_⟩
  all_goals first
   | exact HeldL.new u2 _ _
   | exact ((KN2.out.set 0 _ _ rfl).set 1 _ _ rfl)
   | exact OwnV.below aG.out ((Below.refl _ u2).alloc (Nat.le_refl _) _)
   | exact ((HOn.out.setBelow HLN2.out _).setBelow HLN2.out _).based (Nat.le_trans HGN.out (Nat.le_of_lt HLN2.out))
   | exact KK_a_2.out.alloc _
   | exact ((KK_a_2.out.setOther NE_a.out _).setOther NE_a.out _)
   | exact KK_b_2.out.alloc _
   | exact ((KK_b_2.out.setOther NE_b.out _).setOther NE_b.out _)
   | exact KK_res_2.out.alloc _
   | exact ((KK_res_2.out.setOther NE_res.out _).setOther NE_res.out _)
   | exact aP.out.alloc aP.out.size _
   | exact ((aP.out.setCell HGN.out _).setCell HGN.out _)
 clear bA
 clear bB
 clear bC
 clear bD
 clear bE
 clear bF
 clear aQ
 clear aR
 clear aD
 clear aB
 obtain ⟨bM,A1,c1,rfl,hkn,hon,hq_a,hq_b,hq_res,hbw⟩:=hcut
 have a0:=Hd hq_a
 clear hq_a
 have a2:=Hd hq_b
 clear hq_b
 have aH:=Hd hq_res
 clear hq_res
 have aS:=Hd hkn
 clear hkn
 have aT:=Hd hon
 clear hon
 have aC:=Hd hbw
 clear hbw
 obtain ⟨aJ,aK,aL⟩:=a0.out.c3
 obtain ⟨aM,aN,aO⟩:=a2.out.c3
 go_upto_region 5 with fail
 go_cut [7] (fun ptr wx=>∃ b A2 c2,ptr = .pointer (some ⟨b,0,none⟩) ∧ HeldL wx b [.bool g2,.slice A2 (nats M2).length c2] ∧ OwnV wx w.heap.size 3 (.slice A2 (nats M2).length c2) (nats M2) ∧ HeldL wx (w.heap.size) [.bool s,.slice A n c,.slice B m d] ∧ HeldL wx (w.heap.size + 1) [.bool t,.slice C p q,.slice E k l] ∧ HeldL wx (w.heap.size + 1 + 1) [.bool false,.slice none 0 0,.slice none 0 0] ∧ HeldL wx (bM) [.bool g1,.slice A1 (nats M1).length c1] ∧ OwnV wx w.heap.size 3 (.slice A1 (nats M1).length c1) (nats M1) ∧ Below w.heap.size w wx)
 case first=>
  go_region_held3 (fun w' =>w'.cell? ⟨w.heap.size,0,none⟩ = some (.bool s) ∧ w'.cell? ⟨w.heap.size,1,none⟩ = some (.slice A n c) ∧ w'.cell? ⟨w.heap.size,2,none⟩ = some (.slice B m d) ∧ w'.cell? ⟨w.heap.size + 1,0,none⟩ = some (.bool t) ∧ w'.cell? ⟨w.heap.size + 1,1,none⟩ = some (.slice C p q) ∧ w'.cell? ⟨w.heap.size + 1,2,none⟩ = some (.slice E k l)) (go_keep)
   (first
     |(go_at_call 81
       refine (l02Mul_any C B p q m d es bs _ ?_ ?_ Hv2.out.1.1 Hv.out.2.1.1 ?_).mono ?_
       first | exact (HC.out.below aC.out.drew (Nat.le_refl _)).1 | exact (HC.out.below (aC.out.alloc aC.out.size (.cells #[.bool false,.slice none 0 0] 33)).drew (Nat.le_refl _)).1
       first | exact (HB.out.below aC.out.drew (Nat.le_refl _)).1 | exact (HB.out.below (aC.out.alloc aC.out.size (.cells #[.bool false,.slice none 0 0] 33)).drew (Nat.le_refl _)).1
       omega
       rintro e u1 ⟨vm2,rfl,ho,hb⟩
       obtain ⟨Am2,cm2,rfl⟩:=ho.shape
       first | (have KN1:=Hd ((HeldL.new wc [.bool false,.slice none 0 0] 33).drew.after hb); have HLN1:=Hd (HeldL.new wc [.bool false,.slice none 0 0] 33).lt; have HGN:=Hd aC.out.size; have NE_a:=Hd (Nat.ne_of_lt a0.out.lt); have NE_b:=Hd (Nat.ne_of_lt a2.out.lt); have NE_res:=Hd (Nat.ne_of_lt aH.out.lt); have NE_n1:=Hd (Nat.ne_of_lt aS.out.lt); have NB_O1:=Hd (OwnV.bn_new aT.out)) | skip
       have T9 : HeldL u1 (w.heap.size) [.bool s,.slice A n c,.slice B m d]:=by first | exact a0.out.drew.after hb | exact (a0.out.alloc (.cells #[.bool false,.slice none 0 0] 33)).drew.after hb
       have KK_a_1:=Hd T9
       clear T9
       have T9 : HeldL u1 (w.heap.size + 1) [.bool t,.slice C p q,.slice E k l]:=by first | exact a2.out.drew.after hb | exact (a2.out.alloc (.cells #[.bool false,.slice none 0 0] 33)).drew.after hb
       have KK_b_1:=Hd T9
       clear T9
       have T9 : HeldL u1 (w.heap.size + 1 + 1) [.bool false,.slice none 0 0,.slice none 0 0]:=by first | exact aH.out.drew.after hb | exact (aH.out.alloc (.cells #[.bool false,.slice none 0 0] 33)).drew.after hb
       have KK_res_1:=Hd T9
       clear T9
       have T9 : HeldL u1 (bM) [.bool g1,.slice A1 (nats M1).length c1]:=by first | exact aS.out.drew.after hb | exact (aS.out.alloc (.cells #[.bool false,.slice none 0 0] 33)).drew.after hb
       have KK_n1_1:=Hd T9
       clear T9
       have T9 : OwnV u1 w.heap.size 3 (.slice A1 (nats M1).length c1) (nats M1):=by first | exact OwnV.below (w:=wc.drew) aT.out hb | exact OwnV.below (w:=(wc.alloc (.cells #[.bool false,.slice none 0 0] 33)).drew) (OwnV.below aT.out ((Below.refl _ wc).alloc (Nat.le_refl _) (.cells #[.bool false,.slice none 0 0] 33)).drew) hb
       have aU:=Hd T9
       clear T9
       have T9 : OwnV u1 w.heap.size 3 (.slice Am2 (nats (dig (val es * val bs))).length cm2) (nats (dig (val es * val bs))):=by first | exact ho.based aC.out.drew.size | exact ho.based (aC.out.alloc aC.out.size (.cells #[.bool false,.slice none 0 0] 33)).drew.size
       have aF:=Hd T9
       clear T9 ho
       have T9 : Below w.heap.size w u1:=by first | exact (aC.out.drew).trans (hb.mono (aC.out.drew).size) | exact ((aC.out.alloc aC.out.size (.cells #[.bool false,.slice none 0 0] 33)).drew).trans (hb.mono ((aC.out.alloc aC.out.size (.cells #[.bool false,.slice none 0 0] 33)).drew).size)
       have aA:=Hd T9
       clear T9 hb
       obtain ⟨aJ,aK,aL⟩:=KK_a_1.out.c3
       obtain ⟨aM,aN⟩:=KK_b_1.out.c2
       have aO:=KK_b_1.out.cell 2 _ rfl)
     |(go_at_call 84
       refine (l03Make_let t Am2 _ cm2 (dig (val es * val bs)) z2 g2 M2 HZ2.out Hg2.out eH.out _ ?_ (dig_can _).1).mono ?_
       first | exact (aF.out).arg | exact (OwnV.below aF.out ((Below.refl _ u1).alloc (Nat.le_refl _) (.cells #[.bool false,.slice none 0 0] 33))).arg
       rintro e u2 ⟨v2,rfl,ho,hb⟩
       obtain ⟨A2,c2,rfl⟩:=ho.shape
       first | (have KN2:=Hd (KN1.out.after hb); have HLN2:=Hd KN1.out.lt) | (have KN2:=Hd ((HeldL.new u1 [.bool false,.slice none 0 0] 33).after hb); have HLN2:=Hd (HeldL.new u1 [.bool false,.slice none 0 0] 33).lt; have HGN:=Hd aA.out.size; have NE_a:=Hd (Nat.ne_of_lt KK_a_1.out.lt); have NE_b:=Hd (Nat.ne_of_lt KK_b_1.out.lt); have NE_res:=Hd (Nat.ne_of_lt KK_res_1.out.lt); have NE_n1:=Hd (Nat.ne_of_lt KK_n1_1.out.lt); have NB_O1:=Hd (OwnV.bn_new aU.out)) | skip
       have T9 : HeldL u2 (w.heap.size) [.bool s,.slice A n c,.slice B m d]:=by first | exact KK_a_1.out.after hb | exact (KK_a_1.out.alloc (.cells #[.bool false,.slice none 0 0] 33)).after hb
       have KK_a_2:=Hd T9
       clear T9
       have T9 : HeldL u2 (w.heap.size + 1) [.bool t,.slice C p q,.slice E k l]:=by first | exact KK_b_1.out.after hb | exact (KK_b_1.out.alloc (.cells #[.bool false,.slice none 0 0] 33)).after hb
       have KK_b_2:=Hd T9
       clear T9
       have T9 : HeldL u2 (w.heap.size + 1 + 1) [.bool false,.slice none 0 0,.slice none 0 0]:=by first | exact KK_res_1.out.after hb | exact (KK_res_1.out.alloc (.cells #[.bool false,.slice none 0 0] 33)).after hb
       have KK_res_2:=Hd T9
       clear T9
       have T9 : HeldL u2 (bM) [.bool g1,.slice A1 (nats M1).length c1]:=by first | exact KK_n1_1.out.after hb | exact (KK_n1_1.out.alloc (.cells #[.bool false,.slice none 0 0] 33)).after hb
       have KK_n1_2:=Hd T9
       clear T9
       have T9 : OwnV u2 w.heap.size 3 (.slice A1 (nats M1).length c1) (nats M1):=by first | exact OwnV.below (w:=u1) aU.out hb | exact OwnV.below (w:=(u1.alloc (.cells #[.bool false,.slice none 0 0] 33))) (OwnV.below aU.out ((Below.refl _ u1).alloc (Nat.le_refl _) (.cells #[.bool false,.slice none 0 0] 33))) hb
       have aG:=Hd T9
       clear T9
       have T9 : OwnV u2 w.heap.size 3 (.slice Am2 (nats (dig (val es * val bs))).length cm2) (nats (dig (val es * val bs))):=by first | exact OwnV.below (w:=u1) aF.out hb | exact OwnV.below (w:=(u1.alloc (.cells #[.bool false,.slice none 0 0] 33))) (OwnV.below aF.out ((Below.refl _ u1).alloc (Nat.le_refl _) (.cells #[.bool false,.slice none 0 0] 33))) hb
       have dC:=Hd T9
       clear T9
       have HOn:=Hd ho
       have T9 : OwnV u2 w.heap.size 3 (.slice A2 (nats M2).length c2) (nats M2):=by first | exact ho.based aA.out.size | exact ho.based (aA.out.alloc aA.out.size (.cells #[.bool false,.slice none 0 0] 33)).size
       have b2:=Hd T9
       clear T9 ho
       have T9 : Below w.heap.size w u2:=by first | exact (aA.out).trans (hb.mono (aA.out).size) | exact ((aA.out.alloc aA.out.size (.cells #[.bool false,.slice none 0 0] 33))).trans (hb.mono ((aA.out.alloc aA.out.size (.cells #[.bool false,.slice none 0 0] 33))).size)
       have aP:=Hd T9
       clear T9 hb
       obtain ⟨bG,bH,bI⟩:=KK_a_2.out.c3
       obtain ⟨bJ,bK,bL⟩:=KK_b_2.out.c3
       try have hkn0:=KN2.out.cell 0 _ rfl
       try have hkf0:=KN2.out.froz 0 _ rfl
       try have hkn1:=KN2.out.cell 1 _ rfl
       try have hkf1:=KN2.out.froz 1 _ rfl
       try have dA:=NE_a.out
       try have hnf_a:=NE_a.out.symm
       try have dB:=NE_b.out
       try have hnf_b:=NE_b.out.symm))
  all_goals go_wp2_with fail
  all_goals go_meet
  all_goals refine ⟨_,A2,c2,rfl,?_,?_,?_,?_,?_,?_,?_,?_⟩
  all_goals first
   | exact HeldL.new u2 _ _
   | exact ((KN2.out.set 0 _ _ rfl).set 1 _ _ rfl)
   | exact OwnV.below b2.out ((Below.refl _ u2).alloc (Nat.le_refl _) _)
   | exact ((HOn.out.setBelow HLN2.out _).setBelow HLN2.out _).based (Nat.le_trans HGN.out (Nat.le_of_lt HLN2.out))
   | exact KK_a_2.out.alloc _
   | exact ((KK_a_2.out.setOther NE_a.out _).setOther NE_a.out _)
   | exact KK_b_2.out.alloc _
   | exact ((KK_b_2.out.setOther NE_b.out _).setOther NE_b.out _)
   | exact KK_res_2.out.alloc _
   | exact ((KK_res_2.out.setOther NE_res.out _).setOther NE_res.out _)
   | exact KK_n1_2.out.alloc _
   | exact ((KK_n1_2.out.setOther NE_n1.out _).setOther NE_n1.out _)
   | exact OwnV.below aG.out ((Below.refl _ u2).alloc (Nat.le_refl _) _)
   | exact ((aG.out.setOther NB_O1.out _).setOther NB_O1.out _)
   | exact aP.out.alloc aP.out.size _
   | exact ((aP.out.setCell HGN.out _).setCell HGN.out _)
 clear aJ
 clear aK
 clear aL
 clear aM
 clear aN
 clear aO
 clear a0
 clear a2
 clear aH
 clear aS
 clear aT
 clear aC
 obtain ⟨dD,A2,c2,rfl,hkn,hon,hq_a,hq_b,hq_res,hq_n1,b4,hbw⟩:=hcut
 have dE:=Hd hq_a
 clear hq_a
 have dF:=Hd hq_b
 clear hq_b
 have b3:=Hd hq_res
 clear hq_res
 have bN:=Hd hq_n1
 clear hq_n1
 have aV:=Hd b4
 clear b4
 have bO:=Hd hkn
 clear hkn
 have aW:=Hd hon
 clear hon
 have dG:=Hd hbw
 clear hbw
 obtain ⟨a6,a7⟩:=bN.out.c2
 obtain ⟨a8,a9⟩:=bO.out.c2
 go_wp2_with fail
 refine (l03Add_let g1 g2 A1 A2 _ c1 _ c2 M1 M2 z g8 M8 HSUM.out Hg8.out eI.out _ aV.out.arg aW.out.arg HCM1.out HCM2.out HLM1.out HLM2.out).mono ?_
 rintro e w8 ⟨v8,rfl,ho,hb⟩
 obtain ⟨A8,c8,rfl⟩:=ho.shape
 have HO8:=Hd ho
 have AP_O1_O8:=Hd (OwnV.apart aV.out ho (Nat.le_refl _))
 have AP_O8_O1:=Hd (OwnV.apart' ho aV.out (Nat.le_refl _))
 have AP_O2_O8:=Hd (OwnV.apart aW.out ho (Nat.le_refl _))
 have AP_O8_O2:=Hd (OwnV.apart' ho aW.out (Nat.le_refl _))
 clear ho
 have bP:=Hd (dE.out.after hb)
 have bQ:=Hd (dF.out.after hb)
 have aX:=Hd (b3.out.after hb)
 have a3:=Hd (bN.out.after hb)
 have a4:=Hd (bO.out.after hb)
 have cC:=Hd (OwnV.below (w:=wc) aV.out hb)
 have cD:=Hd (OwnV.below (w:=wc) aW.out hb)
 have dH:=Hd (dG.out.trans (hb.mono dG.out.size))
 clear hb
 have bR:=Hd (bP.out.alloc (.cells #[.bool g8,.slice A8 (nats M8).length c8] 33))
 have dI : w.heap.size ≠ w8.heap.size:=by have:=bP.out.lt; omega
 have dJ : w8.heap.size ≠ w.heap.size:=by have:=bP.out.lt; omega
 have bS:=Hd (bQ.out.alloc (.cells #[.bool g8,.slice A8 (nats M8).length c8] 33))
 have dK : w.heap.size + 1 ≠ w8.heap.size:=by have:=bQ.out.lt; omega
 have dL : w8.heap.size ≠ w.heap.size + 1:=by have:=bQ.out.lt; omega
 have aY:=Hd (aX.out.alloc (.cells #[.bool g8,.slice A8 (nats M8).length c8] 33))
 have cE : w.heap.size + 1 + 1 ≠ w8.heap.size:=by have:=aX.out.lt; omega
 have cF : w8.heap.size ≠ w.heap.size + 1 + 1:=by have:=aX.out.lt; omega
 have bT:=Hd (a3.out.alloc (.cells #[.bool g8,.slice A8 (nats M8).length c8] 33))
 have cV : bM ≠ w8.heap.size:=by have:=a3.out.lt; omega
 have cW : w8.heap.size ≠ bM:=by have:=a3.out.lt; omega
 have bU:=Hd (a4.out.alloc (.cells #[.bool g8,.slice A8 (nats M8).length c8] 33))
 have cX : dD ≠ w8.heap.size:=by have:=a4.out.lt; omega
 have cY : w8.heap.size ≠ dD:=by have:=a4.out.lt; omega
 have a5:=Hd (HeldL.new w8 [.bool g8,.slice A8 (nats M8).length c8] 33)
 have bV:=Hd (OwnV.below cC.out ((Below.refl _ w8).alloc (Nat.le_refl _) (.cells #[.bool g8,.slice A8 (nats M8).length c8] 33)))
 have bW:=Hd (OwnV.below cD.out ((Below.refl _ w8).alloc (Nat.le_refl _) (.cells #[.bool g8,.slice A8 (nats M8).length c8] 33)))
 have bX:=Hd (OwnV.below HO8.out ((Below.refl _ w8).alloc (Nat.le_refl _) (.cells #[.bool g8,.slice A8 (nats M8).length c8] 33)))
 have bY:=Hd (dH.out.alloc dH.out.size (.cells #[.bool g8,.slice A8 (nats M8).length c8] 33))
 go_upto_region 7 with fail
 clear a6
 clear a7
 clear a8
 clear a9
 obtain ⟨w8a,hw8a⟩ : ∃ u,(w8.alloc (.cells #[.bool g8,.slice A8 (nats M8).length c8] 33)) = u:=⟨_,rfl⟩
 rw [hw8a] at bR bS aY bT bU a5 bV bW bX bY ⊢
 clear hw8a
 obtain ⟨cZ,c0⟩:=a5.out.c2
 obtain ⟨dM,dN,dO⟩:=bR.out.c3
 obtain ⟨dP,dQ,dR⟩:=bS.out.c3
 obtain ⟨cG,b5,cH,b6,cI,b7⟩:=aY.out.g3
 go_wp2
 go_region_held3 (fun w' =>w'.cell? ⟨w8.heap.size,0,none⟩ = some (.bool g8) ∧ w'.cell? ⟨w8.heap.size,1,none⟩ = some (.slice A8 (nats M8).length c8) ∧ w'.cell? ⟨w.heap.size,0,none⟩ = some (.bool s) ∧ w'.cell? ⟨w.heap.size,1,none⟩ = some (.slice A n c) ∧ w'.cell? ⟨w.heap.size,2,none⟩ = some (.slice B m d) ∧ w'.cell? ⟨w.heap.size + 1,0,none⟩ = some (.bool t) ∧ w'.cell? ⟨w.heap.size + 1,1,none⟩ = some (.slice C p q) ∧ w'.cell? ⟨w.heap.size + 1,2,none⟩ = some (.slice E k l)) (go_keep)
  (first
    |(go_at_call_of 81 (Value.slice B m d)
      refine (l02Mul_any B E m d k l bs gs _ (HB.out.below bY.out.drew (Nat.le_refl _)).1 (HE.out.below bY.out.drew (Nat.le_refl _)).1 Hv.out.2.1.1 Hv2.out.2.1.1 ?_).mono ?_
      omega
      rintro e wm3 ⟨vm3,rfl,ho,hb⟩
      obtain ⟨Am3,cm3,rfl⟩:=ho.shape
      have HOm3:=Hd ho
      clear ho
      have b8:=Hd (bR.out.drew.after hb)
      have bZ:=Hd (bS.out.drew.after hb)
      have aZ:=Hd (aY.out.drew.after hb)
      have cJ:=Hd (bT.out.drew.after hb)
      have cK:=Hd (bU.out.drew.after hb)
      have b0:=Hd (a5.out.drew.after hb)
      have cL:=Hd (OwnV.below (w:=w8a.drew) bV.out hb)
      have cM:=Hd (OwnV.below (w:=w8a.drew) bW.out hb)
      have b1:=Hd (OwnV.below (w:=w8a.drew) bX.out hb)
      have dS:=Hd (bY.out.drew.trans (hb.mono bY.out.drew.size))
      clear hb
      obtain ⟨c4,c5⟩:=b0.out.c2
      obtain ⟨dT,dU,dV⟩:=b8.out.c3
      obtain ⟨dW,dX⟩:=bZ.out.c2
      have dY:=bZ.out.cell 2 _ rfl)
    |(go_at_call 80
      refine (l04Low_let g8 A8 (nats M8).length c8 M8 Am3 _ cm3 (dig (val bs * val gs)) z bv HZ8.out ?_ _ b1.out.arg HOm3.out.arg HCM8.out.1 (dig_can _).1 HLM8.out ?_ RS RN RD HLS.out HLN.out HLD.out).mono ?_
      rw [val_dig]; exact Hbv.out
      rw [nats_len]; exact HLB.out
      rintro e w9 ⟨v9n,v9d,rfl,hon,hod,apn,apd,hb⟩
      obtain ⟨A9n,c9n,rfl⟩:=hon.shape
      obtain ⟨A9d,c9d,rfl⟩:=hod.shape
      have HO9n:=Hd hon
      have HO9d:=Hd hod
      have AP_O9n_O9d:=Hd apn
      have AP_O9d_O9n:=Hd apd
      clear hon hod apn apd
      have dZ:=Hd (b8.out.after hb)
      have d0:=Hd (bZ.out.after hb)
      have aI:=Hd (aZ.out.after hb)
      have eA:=Hd (cJ.out.after hb)
      have eB:=Hd (cK.out.after hb)
      have cN:=Hd (b0.out.after hb)
      have eC:=Hd (OwnV.below (w:=wm3) cL.out hb)
      have eD:=Hd (OwnV.below (w:=wm3) cM.out hb)
      have eE:=Hd (OwnV.below (w:=wm3) b1.out hb)
      have d9:=Hd (OwnV.below (w:=wm3) HOm3.out hb)
      have eF:=Hd (dS.out.trans (hb.mono dS.out.size))
      clear hb
      obtain ⟨c6,c7⟩:=cN.out.c2
      obtain ⟨d1,d2,d3⟩:=dZ.out.c3
      obtain ⟨d4,d5,d6⟩:=d0.out.c3
      obtain ⟨cO,b9,cP,cA⟩:=aI.out.g2
      have cQ:=aI.out.cell 2 _ rfl
      have cB:=aI.out.froz 2 _ rfl))
 go_wp2
 obtain ⟨hr0,hr1,hr2⟩:=aI.out.c3
 exact bodyPost_ret (v:=.agg #[.bool RS,.slice A9n (nats RN).length c9n,.slice A9d (nats RD).length c9d]) (by simp [results,Tryz.results65,go_sem,hr0,hr1,hr2]) rfl (ownRR_close eF.out HO9n.out HO9d.out aZ.out.lt aZ.out.lt (by omega) AP_O9n_O9d.out AP_O9d_O9n.out)
end Go.Proofs.YtodoiekbjjiocaaGreat
namespace Go.Proofs.YtodoiekbjjiocaaGreat
open Go.RowKit Nt
set_option linter.unusedVariables false
set_option maxRecDepth 100000
set_option maxHeartbeats 4000000
theorem l04Add_mix (s : Bool) (A : Option Addr) (n c : Nat) (ds : List Nat) (B : Option Addr) (m d : Nat) (bs : List Nat) (t : Bool) (C : Option Addr) (p q : Nat) (es : List Nat) (E : Option Addr) (k l : Nat) (gs : List Nat) (z : Int) (bv : Nat) (hz : signed s (val ds) * (val gs : Int) + signed t (val es) * (val bs : Int) = z) (hbv : val bs * val gs = bv) (w : World) (hA : Arg w A n c (nats ds)) (hB : Arg w B m d (nats bs)) (hv : Valid ds bs) (hC : Arg w C p q (nats es)) (hE : Arg w E k l (nats gs)) (hv2 : Valid es gs) (h1 : isOne bs = true) (h2 : isOne gs = false) :
 Calls Tryz.prog 65 #[.agg #[.bool s,.slice A n c,.slice B m d],.agg #[.bool t,.slice C p q,.slice E k l]] w (OwnRR 3 (loS z bv) (nats (loN z bv)) (nats (loD z bv)) w):=by
 obtain ⟨RS,hRS⟩ : ∃ y9,loS z bv = y9:=⟨_,rfl⟩
 obtain ⟨RN,hRN⟩ : ∃ y9,loN z bv = y9:=⟨_,rfl⟩
 obtain ⟨RD,hRD⟩ : ∃ y9,loD z bv = y9:=⟨_,rfl⟩
 rw [hRS,hRN,hRD]
 have HLS:=Hd hRS
 have HLN:=Hd hRN
 have HLD:=Hd hRD
 clear hRS hRN hRD
 have hn : n ≤ 24:=by have:=hA.nlen; have:=hv.2.2.1; omega
 have hm : m ≤ 24:=by have:=hB.nlen; have:=hv.2.2.2.1; omega
 have hp : p ≤ 24:=by have:=hC.nlen; have:=hv2.2.2.1; omega
 have hk : k ≤ 24:=by have:=hE.nlen; have:=hv2.2.2.2.1; omega
 have HBZ:=Hd (show z.natAbs < 1000000000 ^ 60 by rw [← hz]; exact add_small hv hv2)
 obtain ⟨z1,hz1⟩ : ∃ y9,signed s (val ds) * (val gs : Int) = y9:=⟨_,rfl⟩
 obtain ⟨z2,hz2⟩ : ∃ y9,signed t (val es) * (val bs : Int) = y9:=⟨_,rfl⟩
 have HBK1:=Hd (show signed (sgZ z1) (val (magZ z1)) = z1 by rw [← hz1]; exact back_z (one_small hv.1 hv.2.2.1 hv2.2.1 hv2.2.2.2.1))
 have HBK2:=Hd (show signed (sgZ z2) (val (magZ z2)) = z2 by rw [← hz2]; exact back_z (one_small hv2.1 hv2.2.2.1 hv.2.1 hv.2.2.2.1))
 have HZ1:=Hd (show signed s (val (dig (val ds * val gs))) = z1 by rw [val_dig,signed_z]; exact hz1)
 have HZ2:=Hd (show signed t (val (dig (val es * val bs))) = z2 by rw [val_dig,signed_z]; exact hz2)
 have HZO:=Hd (show val bs = 1 → val gs = 1 → signed s (val ds) + signed t (val es) = z by intro h1 h2; rw [← hz,h1,h2]; simp)
 have HBO:=Hd (show val bs = 1 → val gs = 1 → val [1] = bv by intro h1 h2; rw [← hbv,h1,h2]; rfl)
 obtain ⟨g1,hg1⟩ : ∃ y9,sgZ z1 = y9:=⟨_,rfl⟩
 obtain ⟨g2,hg2⟩ : ∃ y9,sgZ z2 = y9:=⟨_,rfl⟩
 obtain ⟨g8,hg8⟩ : ∃ y9,sgZ z = y9:=⟨_,rfl⟩
 obtain ⟨M1,hM1⟩ : ∃ y9,magZ z1 = y9:=⟨_,rfl⟩
 obtain ⟨M2,hM2⟩ : ∃ y9,magZ z2 = y9:=⟨_,rfl⟩
 obtain ⟨M8,hM8⟩ : ∃ y9,magZ z = y9:=⟨_,rfl⟩
 have HCM1:=Hd (hM1 ▸ magZ_can z1)
 have HCM2:=Hd (hM2 ▸ magZ_can z2)
 have HCM8:=Hd (hM8 ▸ magZ_can z)
 have HLM1:=Hd (show (nats M1).length ≤ 60 by rw [nats_len,← hM1]; exact capd_len _)
 have HLM2:=Hd (show (nats M2).length ≤ 60 by rw [nats_len,← hM2]; exact capd_len _)
 have HLM8:=Hd (show (nats M8).length ≤ 60 by rw [nats_len,← hM8]; exact capd_len _)
 have HSUM:=Hd (show signed g1 (val M1) + signed g2 (val M2) = z by rw [← hg1,← hg2,← hM1,← hM2,HBK1.out,HBK2.out,← hz1,← hz2]; exact hz)
 have HZ8:=Hd (show signed g8 (val M8) = z by rw [← hg8,← hM8]; exact back_z HBZ.out)
 have HLB:=Hd (mul_len hv.2.1 hv.2.2.2.1 hv2.2.1 hv2.2.2.2.1)
 clear hz hz1 hz2
 have Hg1:=Hd hg1
 have Hg2:=Hd hg2
 have Hg8:=Hd hg8
 have eG:=Hd hM1
 have eH:=Hd hM2
 have eI:=Hd hM8
 clear hg1 hg2 hg8 hM1 hM2 hM8
 have HA:=Hd hA
 have HB:=Hd hB
 have HC:=Hd hC
 have HE:=Hd hE
 have Hv:=Hd hv
 have Hv2:=Hd hv2
 have Hbv:=Hd hbv
 clear hA hB hC hE hv hv2 hbv
 go_enter Tryz.func65,Tryz.ntmps65
 have aB:=Hd ((((Below.refl w.heap.size w).alloc (Nat.le_refl _) (.cells #[.bool s,.slice A n c,.slice B m d] 35)).alloc (by simp) (.cells #[.bool t,.slice C p q,.slice E k l] 35)).alloc (by simp; omega) (.cells #[.bool false,.slice none 0 0,.slice none 0 0] 35))
 have aQ:=Hd (((HeldL.new_at w (w.heap.size) [.bool s,.slice A n c,.slice B m d] 35 (by first | rfl | simp)).alloc (.cells #[.bool t,.slice C p q,.slice E k l] 35)).alloc (.cells #[.bool false,.slice none 0 0,.slice none 0 0] 35))
 have aR:=Hd ((HeldL.new_at (w.alloc (.cells #[.bool s,.slice A n c,.slice B m d] 35)) (w.heap.size + 1) [.bool t,.slice C p q,.slice E k l] 35 (by first | rfl | simp)).alloc (.cells #[.bool false,.slice none 0 0,.slice none 0 0] 35))
 have aD:=Hd (HeldL.new_at ((w.alloc (.cells #[.bool s,.slice A n c,.slice B m d] 35)).alloc (.cells #[.bool t,.slice C p q,.slice E k l] 35)) (w.heap.size + 1 + 1) [.bool false,.slice none 0 0,.slice none 0 0] 35 (by first | rfl | simp))
 have d7 : w.heap.size ≠ w.heap.size + 1:=by omega
 have cR : w.heap.size ≠ w.heap.size + 1 + 1:=by omega
 have d8 : w.heap.size + 1 ≠ w.heap.size:=by omega
 have cS : w.heap.size + 1 ≠ w.heap.size + 1 + 1:=by omega
 have cT : w.heap.size + 1 + 1 ≠ w.heap.size:=by omega
 have cU : w.heap.size + 1 + 1 ≠ w.heap.size + 1:=by omega
 go_wp2_with fail
 refine (l04One_any B m d bs _ (HB.out.below aB.out (Nat.le_refl _)).1 HB.out.max).mono ?_
 rintro e w1 ⟨rfl,rfl⟩
 rw [h1]
 go_wp2_with fail
 refine (l04One_any E k l gs _ (HE.out.below aB.out (Nat.le_refl _)).1 HE.out.max).mono ?_
 rintro e w1 ⟨rfl,rfl⟩
 rw [h2]
 clear h1 h2
 obtain ⟨w4,hw4⟩ : ∃ u,(((w.alloc (.cells #[.bool s,.slice A n c,.slice B m d] 35)).alloc (.cells #[.bool t,.slice C p q,.slice E k l] 35)).alloc (.cells #[.bool false,.slice none 0 0,.slice none 0 0] 35)) = u:=⟨_,rfl⟩
 rw [hw4] at aQ aR aD aB ⊢
 clear hw4
 obtain ⟨bA,bB,bC⟩:=aQ.out.c3
 obtain ⟨bD,bE,bF⟩:=aR.out.c3
 go_upto_region 4 with fail
 go_cut [6] (fun ptr wx=>∃ b A1 c1,ptr = .pointer (some ⟨b,0,none⟩) ∧ HeldL wx b [.bool g1,.slice A1 (nats M1).length c1] ∧ OwnV wx w.heap.size 3 (.slice A1 (nats M1).length c1) (nats M1) ∧ HeldL wx (w.heap.size) [.bool s,.slice A n c,.slice B m d] ∧ HeldL wx (w.heap.size + 1) [.bool t,.slice C p q,.slice E k l] ∧ HeldL wx (w.heap.size + 1 + 1) [.bool false,.slice none 0 0,.slice none 0 0] ∧ Below w.heap.size w wx)
 case first=>
  go_region_held3 (fun w' =>w'.cell? ⟨w.heap.size,0,none⟩ = some (.bool s) ∧ w'.cell? ⟨w.heap.size,1,none⟩ = some (.slice A n c) ∧ w'.cell? ⟨w.heap.size,2,none⟩ = some (.slice B m d) ∧ w'.cell? ⟨w.heap.size + 1,0,none⟩ = some (.bool t) ∧ w'.cell? ⟨w.heap.size + 1,1,none⟩ = some (.slice C p q) ∧ w'.cell? ⟨w.heap.size + 1,2,none⟩ = some (.slice E k l)) (go_keep)
   (first
     |(go_at_call 81
       refine (l02Mul_any A E n c k l ds gs _ ?_ ?_ Hv.out.1.1 Hv2.out.2.1.1 ?_).mono ?_
       first | exact (HA.out.below aB.out.drew (Nat.le_refl _)).1 | exact (HA.out.below (aB.out.alloc aB.out.size (.cells #[.bool false,.slice none 0 0] 33)).drew (Nat.le_refl _)).1
       first | exact (HE.out.below aB.out.drew (Nat.le_refl _)).1 | exact (HE.out.below (aB.out.alloc aB.out.size (.cells #[.bool false,.slice none 0 0] 33)).drew (Nat.le_refl _)).1
       omega
       rintro e u1 ⟨vm1,rfl,ho,hb⟩
       obtain ⟨Am1,cm1,rfl⟩:=ho.shape
       first | (have KN1:=Hd ((HeldL.new w4 [.bool false,.slice none 0 0] 33).drew.after hb); have HLN1:=Hd (HeldL.new w4 [.bool false,.slice none 0 0] 33).lt; have HGN:=Hd aB.out.size; have NE_a:=Hd (Nat.ne_of_lt aQ.out.lt); have NE_b:=Hd (Nat.ne_of_lt aR.out.lt); have NE_res:=Hd (Nat.ne_of_lt aD.out.lt)) | skip
       have T9 : HeldL u1 (w.heap.size) [.bool s,.slice A n c,.slice B m d]:=by first | exact aQ.out.drew.after hb | exact (aQ.out.alloc (.cells #[.bool false,.slice none 0 0] 33)).drew.after hb
       have KK_a_1:=Hd T9
       clear T9
       have T9 : HeldL u1 (w.heap.size + 1) [.bool t,.slice C p q,.slice E k l]:=by first | exact aR.out.drew.after hb | exact (aR.out.alloc (.cells #[.bool false,.slice none 0 0] 33)).drew.after hb
       have KK_b_1:=Hd T9
       clear T9
       have T9 : HeldL u1 (w.heap.size + 1 + 1) [.bool false,.slice none 0 0,.slice none 0 0]:=by first | exact aD.out.drew.after hb | exact (aD.out.alloc (.cells #[.bool false,.slice none 0 0] 33)).drew.after hb
       have KK_res_1:=Hd T9
       clear T9
       have T9 : OwnV u1 w.heap.size 3 (.slice Am1 (nats (dig (val ds * val gs))).length cm1) (nats (dig (val ds * val gs))):=by first | exact ho.based aB.out.drew.size | exact ho.based (aB.out.alloc aB.out.size (.cells #[.bool false,.slice none 0 0] 33)).drew.size
       have aE:=Hd T9
       clear T9 ho
       have T9 : Below w.heap.size w u1:=by first | exact (aB.out.drew).trans (hb.mono (aB.out.drew).size) | exact ((aB.out.alloc aB.out.size (.cells #[.bool false,.slice none 0 0] 33)).drew).trans (hb.mono ((aB.out.alloc aB.out.size (.cells #[.bool false,.slice none 0 0] 33)).drew).size)
       have aA:=Hd T9
       clear T9 hb
       obtain ⟨aJ,aK,aL⟩:=KK_a_1.out.c3
       obtain ⟨aM,aN⟩:=KK_b_1.out.c2
       have aO:=KK_b_1.out.cell 2 _ rfl)
     |(go_at_call 84
       refine (l03Make_let s Am1 _ cm1 (dig (val ds * val gs)) z1 g1 M1 HZ1.out Hg1.out eG.out _ ?_ (dig_can _).1).mono ?_
       first | exact (aE.out).arg | exact (OwnV.below aE.out ((Below.refl _ u1).alloc (Nat.le_refl _) (.cells #[.bool false,.slice none 0 0] 33))).arg
       rintro e u2 ⟨v1,rfl,ho,hb⟩
       obtain ⟨A1,c1,rfl⟩:=ho.shape
       first | (have KN2:=Hd (KN1.out.after hb); have HLN2:=Hd KN1.out.lt) | (have KN2:=Hd ((HeldL.new u1 [.bool false,.slice none 0 0] 33).after hb); have HLN2:=Hd (HeldL.new u1 [.bool false,.slice none 0 0] 33).lt; have HGN:=Hd aA.out.size; have NE_a:=Hd (Nat.ne_of_lt KK_a_1.out.lt); have NE_b:=Hd (Nat.ne_of_lt KK_b_1.out.lt); have NE_res:=Hd (Nat.ne_of_lt KK_res_1.out.lt)) | skip
       have T9 : HeldL u2 (w.heap.size) [.bool s,.slice A n c,.slice B m d]:=by first | exact KK_a_1.out.after hb | exact (KK_a_1.out.alloc (.cells #[.bool false,.slice none 0 0] 33)).after hb
       have KK_a_2:=Hd T9
       clear T9
       have T9 : HeldL u2 (w.heap.size + 1) [.bool t,.slice C p q,.slice E k l]:=by first | exact KK_b_1.out.after hb | exact (KK_b_1.out.alloc (.cells #[.bool false,.slice none 0 0] 33)).after hb
       have KK_b_2:=Hd T9
       clear T9
       have T9 : HeldL u2 (w.heap.size + 1 + 1) [.bool false,.slice none 0 0,.slice none 0 0]:=by first | exact KK_res_1.out.after hb | exact (KK_res_1.out.alloc (.cells #[.bool false,.slice none 0 0] 33)).after hb
       have KK_res_2:=Hd T9
       clear T9
       have T9 : OwnV u2 w.heap.size 3 (.slice Am1 (nats (dig (val ds * val gs))).length cm1) (nats (dig (val ds * val gs))):=by first | exact OwnV.below (w:=u1) aE.out hb | exact OwnV.below (w:=(u1.alloc (.cells #[.bool false,.slice none 0 0] 33))) (OwnV.below aE.out ((Below.refl _ u1).alloc (Nat.le_refl _) (.cells #[.bool false,.slice none 0 0] 33))) hb
       have c9:=Hd T9
       clear T9
       have HOn:=Hd ho
       have T9 : OwnV u2 w.heap.size 3 (.slice A1 (nats M1).length c1) (nats M1):=by first | exact ho.based aA.out.size | exact ho.based (aA.out.alloc aA.out.size (.cells #[.bool false,.slice none 0 0] 33)).size
       have aG:=Hd T9
       clear T9 ho
       have T9 : Below w.heap.size w u2:=by first | exact (aA.out).trans (hb.mono (aA.out).size) | exact ((aA.out.alloc aA.out.size (.cells #[.bool false,.slice none 0 0] 33))).trans (hb.mono ((aA.out.alloc aA.out.size (.cells #[.bool false,.slice none 0 0] 33))).size)
       have aP:=Hd T9
       clear T9 hb
       obtain ⟨bG,bH,bI⟩:=KK_a_2.out.c3
       obtain ⟨bJ,bK,bL⟩:=KK_b_2.out.c3
       try have hkn0:=KN2.out.cell 0 _ rfl
       try have hkf0:=KN2.out.froz 0 _ rfl
       try have hkn1:=KN2.out.cell 1 _ rfl
       try have hkf1:=KN2.out.froz 1 _ rfl
       try have dA:=NE_a.out
       try have hnf_a:=NE_a.out.symm
       try have dB:=NE_b.out
       try have hnf_b:=NE_b.out.symm))
  all_goals go_wp2_with fail
  all_goals go_meet
  all_goals refine ⟨_,A1,c1,rfl,?_,?_,?_,?_,?_,?_⟩
  all_goals first
   | exact HeldL.new u2 _ _
   | exact ((KN2.out.set 0 _ _ rfl).set 1 _ _ rfl)
   | exact OwnV.below aG.out ((Below.refl _ u2).alloc (Nat.le_refl _) _)
   | exact ((HOn.out.setBelow HLN2.out _).setBelow HLN2.out _).based (Nat.le_trans HGN.out (Nat.le_of_lt HLN2.out))
   | exact KK_a_2.out.alloc _
   | exact ((KK_a_2.out.setOther NE_a.out _).setOther NE_a.out _)
   | exact KK_b_2.out.alloc _
   | exact ((KK_b_2.out.setOther NE_b.out _).setOther NE_b.out _)
   | exact KK_res_2.out.alloc _
   | exact ((KK_res_2.out.setOther NE_res.out _).setOther NE_res.out _)
   | exact aP.out.alloc aP.out.size _
   | exact ((aP.out.setCell HGN.out _).setCell HGN.out _)
 clear bA
 clear bB
 clear bC
 clear bD
 clear bE
 clear bF
 clear aQ
 clear aR
 clear aD
 clear aB
 obtain ⟨bM,A1,c1,rfl,hkn,hon,hq_a,hq_b,hq_res,hbw⟩:=hcut
 have a0:=Hd hq_a
 clear hq_a
 have a2:=Hd hq_b
 clear hq_b
 have aH:=Hd hq_res
 clear hq_res
 have aS:=Hd hkn
 clear hkn
 have aT:=Hd hon
 clear hon
 have aC:=Hd hbw
 clear hbw
 obtain ⟨aJ,aK,aL⟩:=a0.out.c3
 obtain ⟨aM,aN,aO⟩:=a2.out.c3
 go_upto_region 5 with fail
 go_cut [7] (fun ptr wx=>∃ b A2 c2,ptr = .pointer (some ⟨b,0,none⟩) ∧ HeldL wx b [.bool g2,.slice A2 (nats M2).length c2] ∧ OwnV wx w.heap.size 3 (.slice A2 (nats M2).length c2) (nats M2) ∧ HeldL wx (w.heap.size) [.bool s,.slice A n c,.slice B m d] ∧ HeldL wx (w.heap.size + 1) [.bool t,.slice C p q,.slice E k l] ∧ HeldL wx (w.heap.size + 1 + 1) [.bool false,.slice none 0 0,.slice none 0 0] ∧ HeldL wx (bM) [.bool g1,.slice A1 (nats M1).length c1] ∧ OwnV wx w.heap.size 3 (.slice A1 (nats M1).length c1) (nats M1) ∧ Below w.heap.size w wx)
 case first=>
  go_region_held3 (fun w' =>w'.cell? ⟨w.heap.size,0,none⟩ = some (.bool s) ∧ w'.cell? ⟨w.heap.size,1,none⟩ = some (.slice A n c) ∧ w'.cell? ⟨w.heap.size,2,none⟩ = some (.slice B m d) ∧ w'.cell? ⟨w.heap.size + 1,0,none⟩ = some (.bool t) ∧ w'.cell? ⟨w.heap.size + 1,1,none⟩ = some (.slice C p q) ∧ w'.cell? ⟨w.heap.size + 1,2,none⟩ = some (.slice E k l)) (go_keep)
   (first
     |(go_at_call 81
       refine (l02Mul_any C B p q m d es bs _ ?_ ?_ Hv2.out.1.1 Hv.out.2.1.1 ?_).mono ?_
       first | exact (HC.out.below aC.out.drew (Nat.le_refl _)).1 | exact (HC.out.below (aC.out.alloc aC.out.size (.cells #[.bool false,.slice none 0 0] 33)).drew (Nat.le_refl _)).1
       first | exact (HB.out.below aC.out.drew (Nat.le_refl _)).1 | exact (HB.out.below (aC.out.alloc aC.out.size (.cells #[.bool false,.slice none 0 0] 33)).drew (Nat.le_refl _)).1
       omega
       rintro e u1 ⟨vm2,rfl,ho,hb⟩
       obtain ⟨Am2,cm2,rfl⟩:=ho.shape
       first | (have KN1:=Hd ((HeldL.new wc [.bool false,.slice none 0 0] 33).drew.after hb); have HLN1:=Hd (HeldL.new wc [.bool false,.slice none 0 0] 33).lt; have HGN:=Hd aC.out.size; have NE_a:=Hd (Nat.ne_of_lt a0.out.lt); have NE_b:=Hd (Nat.ne_of_lt a2.out.lt); have NE_res:=Hd (Nat.ne_of_lt aH.out.lt); have NE_n1:=Hd (Nat.ne_of_lt aS.out.lt); have NB_O1:=Hd (OwnV.bn_new aT.out)) | skip
       have T9 : HeldL u1 (w.heap.size) [.bool s,.slice A n c,.slice B m d]:=by first | exact a0.out.drew.after hb | exact (a0.out.alloc (.cells #[.bool false,.slice none 0 0] 33)).drew.after hb
       have KK_a_1:=Hd T9
       clear T9
       have T9 : HeldL u1 (w.heap.size + 1) [.bool t,.slice C p q,.slice E k l]:=by first | exact a2.out.drew.after hb | exact (a2.out.alloc (.cells #[.bool false,.slice none 0 0] 33)).drew.after hb
       have KK_b_1:=Hd T9
       clear T9
       have T9 : HeldL u1 (w.heap.size + 1 + 1) [.bool false,.slice none 0 0,.slice none 0 0]:=by first | exact aH.out.drew.after hb | exact (aH.out.alloc (.cells #[.bool false,.slice none 0 0] 33)).drew.after hb
       have KK_res_1:=Hd T9
       clear T9
       have T9 : HeldL u1 (bM) [.bool g1,.slice A1 (nats M1).length c1]:=by first | exact aS.out.drew.after hb | exact (aS.out.alloc (.cells #[.bool false,.slice none 0 0] 33)).drew.after hb
       have KK_n1_1:=Hd T9
       clear T9
       have T9 : OwnV u1 w.heap.size 3 (.slice A1 (nats M1).length c1) (nats M1):=by first | exact OwnV.below (w:=wc.drew) aT.out hb | exact OwnV.below (w:=(wc.alloc (.cells #[.bool false,.slice none 0 0] 33)).drew) (OwnV.below aT.out ((Below.refl _ wc).alloc (Nat.le_refl _) (.cells #[.bool false,.slice none 0 0] 33)).drew) hb
       have aU:=Hd T9
       clear T9
       have T9 : OwnV u1 w.heap.size 3 (.slice Am2 (nats (dig (val es * val bs))).length cm2) (nats (dig (val es * val bs))):=by first | exact ho.based aC.out.drew.size | exact ho.based (aC.out.alloc aC.out.size (.cells #[.bool false,.slice none 0 0] 33)).drew.size
       have aF:=Hd T9
       clear T9 ho
       have T9 : Below w.heap.size w u1:=by first | exact (aC.out.drew).trans (hb.mono (aC.out.drew).size) | exact ((aC.out.alloc aC.out.size (.cells #[.bool false,.slice none 0 0] 33)).drew).trans (hb.mono ((aC.out.alloc aC.out.size (.cells #[.bool false,.slice none 0 0] 33)).drew).size)
       have aA:=Hd T9
       clear T9 hb
       obtain ⟨aJ,aK,aL⟩:=KK_a_1.out.c3
       obtain ⟨aM,aN⟩:=KK_b_1.out.c2
       have aO:=KK_b_1.out.cell 2 _ rfl)
     |(go_at_call 84
       refine (l03Make_let t Am2 _ cm2 (dig (val es * val bs)) z2 g2 M2 HZ2.out Hg2.out eH.out _ ?_ (dig_can _).1).mono ?_
       first | exact (aF.out).arg | exact (OwnV.below aF.out ((Below.refl _ u1).alloc (Nat.le_refl _) (.cells #[.bool false,.slice none 0 0] 33))).arg
       rintro e u2 ⟨v2,rfl,ho,hb⟩
       obtain ⟨A2,c2,rfl⟩:=ho.shape
       first | (have KN2:=Hd (KN1.out.after hb); have HLN2:=Hd KN1.out.lt) | (have KN2:=Hd ((HeldL.new u1 [.bool false,.slice none 0 0] 33).after hb); have HLN2:=Hd (HeldL.new u1 [.bool false,.slice none 0 0] 33).lt; have HGN:=Hd aA.out.size; have NE_a:=Hd (Nat.ne_of_lt KK_a_1.out.lt); have NE_b:=Hd (Nat.ne_of_lt KK_b_1.out.lt); have NE_res:=Hd (Nat.ne_of_lt KK_res_1.out.lt); have NE_n1:=Hd (Nat.ne_of_lt KK_n1_1.out.lt); have NB_O1:=Hd (OwnV.bn_new aU.out)) | skip
       have T9 : HeldL u2 (w.heap.size) [.bool s,.slice A n c,.slice B m d]:=by first | exact KK_a_1.out.after hb | exact (KK_a_1.out.alloc (.cells #[.bool false,.slice none 0 0] 33)).after hb
       have KK_a_2:=Hd T9
       clear T9
       have T9 : HeldL u2 (w.heap.size + 1) [.bool t,.slice C p q,.slice E k l]:=by first | exact KK_b_1.out.after hb | exact (KK_b_1.out.alloc (.cells #[.bool false,.slice none 0 0] 33)).after hb
       have KK_b_2:=Hd T9
       clear T9
       have T9 : HeldL u2 (w.heap.size + 1 + 1) [.bool false,.slice none 0 0,.slice none 0 0]:=by first | exact KK_res_1.out.after hb | exact (KK_res_1.out.alloc (.cells #[.bool false,.slice none 0 0] 33)).after hb
       have KK_res_2:=Hd T9
       clear T9
       have T9 : HeldL u2 (bM) [.bool g1,.slice A1 (nats M1).length c1]:=by first | exact KK_n1_1.out.after hb | exact (KK_n1_1.out.alloc (.cells #[.bool false,.slice none 0 0] 33)).after hb
       have KK_n1_2:=Hd T9
       clear T9
       have T9 : OwnV u2 w.heap.size 3 (.slice A1 (nats M1).length c1) (nats M1):=by first | exact OwnV.below (w:=u1) aU.out hb | exact OwnV.below (w:=(u1.alloc (.cells #[.bool false,.slice none 0 0] 33))) (OwnV.below aU.out ((Below.refl _ u1).alloc (Nat.le_refl _) (.cells #[.bool false,.slice none 0 0] 33))) hb
       have aG:=Hd T9
       clear T9
       have T9 : OwnV u2 w.heap.size 3 (.slice Am2 (nats (dig (val es * val bs))).length cm2) (nats (dig (val es * val bs))):=by first | exact OwnV.below (w:=u1) aF.out hb | exact OwnV.below (w:=(u1.alloc (.cells #[.bool false,.slice none 0 0] 33))) (OwnV.below aF.out ((Below.refl _ u1).alloc (Nat.le_refl _) (.cells #[.bool false,.slice none 0 0] 33))) hb
       have dC:=Hd T9
       clear T9
       have HOn:=Hd ho
       have T9 : OwnV u2 w.heap.size 3 (.slice A2 (nats M2).length c2) (nats M2):=by first | exact ho.based aA.out.size | exact ho.based (aA.out.alloc aA.out.size (.cells #[.bool false,.slice none 0 0] 33)).size
       have b2:=Hd T9
       clear T9 ho
       have T9 : Below w.heap.size w u2:=by first | exact (aA.out).trans (hb.mono (aA.out).size) | exact ((aA.out.alloc aA.out.size (.cells #[.bool false,.slice none 0 0] 33))).trans (hb.mono ((aA.out.alloc aA.out.size (.cells #[.bool false,.slice none 0 0] 33))).size)
       have aP:=Hd T9
       clear T9 hb
       obtain ⟨bG,bH,bI⟩:=KK_a_2.out.c3
       obtain ⟨bJ,bK,bL⟩:=KK_b_2.out.c3
       try have hkn0:=KN2.out.cell 0 _ rfl
       try have hkf0:=KN2.out.froz 0 _ rfl
       try have hkn1:=KN2.out.cell 1 _ rfl
       try have hkf1:=KN2.out.froz 1 _ rfl
       try have dA:=NE_a.out
       try have hnf_a:=NE_a.out.symm
       try have dB:=NE_b.out
       try have hnf_b:=NE_b.out.symm))
  all_goals go_wp2_with fail
  all_goals go_meet
  all_goals refine ⟨_,A2,c2,rfl,?_,?_,?_,?_,?_,?_,?_,?_⟩
  all_goals first
   | exact HeldL.new u2 _ _
   | exact ((KN2.out.set 0 _ _ rfl).set 1 _ _ rfl)
   | exact OwnV.below b2.out ((Below.refl _ u2).alloc (Nat.le_refl _) _)
   | exact ((HOn.out.setBelow HLN2.out _).setBelow HLN2.out _).based (Nat.le_trans HGN.out (Nat.le_of_lt HLN2.out))
   | exact KK_a_2.out.alloc _
   | exact ((KK_a_2.out.setOther NE_a.out _).setOther NE_a.out _)
   | exact KK_b_2.out.alloc _
   | exact ((KK_b_2.out.setOther NE_b.out _).setOther NE_b.out _)
   | exact KK_res_2.out.alloc _
   | exact ((KK_res_2.out.setOther NE_res.out _).setOther NE_res.out _)
   | exact KK_n1_2.out.alloc _
   | exact ((KK_n1_2.out.setOther NE_n1.out _).setOther NE_n1.out _)
   | exact OwnV.below aG.out ((Below.refl _ u2).alloc (Nat.le_refl _) _)
   | exact ((aG.out.setOther NB_O1.out _).setOther NB_O1.out _)
   | exact aP.out.alloc aP.out.size _
   | exact ((aP.out.setCell HGN.out _).setCell HGN.out _)
 clear aJ
 clear aK
 clear aL
 clear aM
 clear aN
 clear aO
 clear a0
 clear a2
 clear aH
 clear aS
 clear aT
 clear aC
 obtain ⟨dD,A2,c2,rfl,hkn,hon,hq_a,hq_b,hq_res,hq_n1,b4,hbw⟩:=hcut
 have dE:=Hd hq_a
 clear hq_a
 have dF:=Hd hq_b
 clear hq_b
 have b3:=Hd hq_res
 clear hq_res
 have bN:=Hd hq_n1
 clear hq_n1
 have aV:=Hd b4
 clear b4
 have bO:=Hd hkn
 clear hkn
 have aW:=Hd hon
 clear hon
 have dG:=Hd hbw
 clear hbw
 obtain ⟨a6,a7⟩:=bN.out.c2
 obtain ⟨a8,a9⟩:=bO.out.c2
 go_wp2_with fail
 refine (l03Add_let g1 g2 A1 A2 _ c1 _ c2 M1 M2 z g8 M8 HSUM.out Hg8.out eI.out _ aV.out.arg aW.out.arg HCM1.out HCM2.out HLM1.out HLM2.out).mono ?_
 rintro e w8 ⟨v8,rfl,ho,hb⟩
 obtain ⟨A8,c8,rfl⟩:=ho.shape
 have HO8:=Hd ho
 have AP_O1_O8:=Hd (OwnV.apart aV.out ho (Nat.le_refl _))
 have AP_O8_O1:=Hd (OwnV.apart' ho aV.out (Nat.le_refl _))
 have AP_O2_O8:=Hd (OwnV.apart aW.out ho (Nat.le_refl _))
 have AP_O8_O2:=Hd (OwnV.apart' ho aW.out (Nat.le_refl _))
 clear ho
 have bP:=Hd (dE.out.after hb)
 have bQ:=Hd (dF.out.after hb)
 have aX:=Hd (b3.out.after hb)
 have a3:=Hd (bN.out.after hb)
 have a4:=Hd (bO.out.after hb)
 have cC:=Hd (OwnV.below (w:=wc) aV.out hb)
 have cD:=Hd (OwnV.below (w:=wc) aW.out hb)
 have dH:=Hd (dG.out.trans (hb.mono dG.out.size))
 clear hb
 have bR:=Hd (bP.out.alloc (.cells #[.bool g8,.slice A8 (nats M8).length c8] 33))
 have dI : w.heap.size ≠ w8.heap.size:=by have:=bP.out.lt; omega
 have dJ : w8.heap.size ≠ w.heap.size:=by have:=bP.out.lt; omega
 have bS:=Hd (bQ.out.alloc (.cells #[.bool g8,.slice A8 (nats M8).length c8] 33))
 have dK : w.heap.size + 1 ≠ w8.heap.size:=by have:=bQ.out.lt; omega
 have dL : w8.heap.size ≠ w.heap.size + 1:=by have:=bQ.out.lt; omega
 have aY:=Hd (aX.out.alloc (.cells #[.bool g8,.slice A8 (nats M8).length c8] 33))
 have cE : w.heap.size + 1 + 1 ≠ w8.heap.size:=by have:=aX.out.lt; omega
 have cF : w8.heap.size ≠ w.heap.size + 1 + 1:=by have:=aX.out.lt; omega
 have bT:=Hd (a3.out.alloc (.cells #[.bool g8,.slice A8 (nats M8).length c8] 33))
 have cV : bM ≠ w8.heap.size:=by have:=a3.out.lt; omega
 have cW : w8.heap.size ≠ bM:=by have:=a3.out.lt; omega
 have bU:=Hd (a4.out.alloc (.cells #[.bool g8,.slice A8 (nats M8).length c8] 33))
 have cX : dD ≠ w8.heap.size:=by have:=a4.out.lt; omega
 have cY : w8.heap.size ≠ dD:=by have:=a4.out.lt; omega
 have a5:=Hd (HeldL.new w8 [.bool g8,.slice A8 (nats M8).length c8] 33)
 have bV:=Hd (OwnV.below cC.out ((Below.refl _ w8).alloc (Nat.le_refl _) (.cells #[.bool g8,.slice A8 (nats M8).length c8] 33)))
 have bW:=Hd (OwnV.below cD.out ((Below.refl _ w8).alloc (Nat.le_refl _) (.cells #[.bool g8,.slice A8 (nats M8).length c8] 33)))
 have bX:=Hd (OwnV.below HO8.out ((Below.refl _ w8).alloc (Nat.le_refl _) (.cells #[.bool g8,.slice A8 (nats M8).length c8] 33)))
 have bY:=Hd (dH.out.alloc dH.out.size (.cells #[.bool g8,.slice A8 (nats M8).length c8] 33))
 go_upto_region 7 with fail
 clear a6
 clear a7
 clear a8
 clear a9
 obtain ⟨w8a,hw8a⟩ : ∃ u,(w8.alloc (.cells #[.bool g8,.slice A8 (nats M8).length c8] 33)) = u:=⟨_,rfl⟩
 rw [hw8a] at bR bS aY bT bU a5 bV bW bX bY ⊢
 clear hw8a
 obtain ⟨cZ,c0⟩:=a5.out.c2
 obtain ⟨dM,dN,dO⟩:=bR.out.c3
 obtain ⟨dP,dQ,dR⟩:=bS.out.c3
 obtain ⟨cG,b5,cH,b6,cI,b7⟩:=aY.out.g3
 go_wp2
 go_region_held3 (fun w' =>w'.cell? ⟨w8.heap.size,0,none⟩ = some (.bool g8) ∧ w'.cell? ⟨w8.heap.size,1,none⟩ = some (.slice A8 (nats M8).length c8) ∧ w'.cell? ⟨w.heap.size,0,none⟩ = some (.bool s) ∧ w'.cell? ⟨w.heap.size,1,none⟩ = some (.slice A n c) ∧ w'.cell? ⟨w.heap.size,2,none⟩ = some (.slice B m d) ∧ w'.cell? ⟨w.heap.size + 1,0,none⟩ = some (.bool t) ∧ w'.cell? ⟨w.heap.size + 1,1,none⟩ = some (.slice C p q) ∧ w'.cell? ⟨w.heap.size + 1,2,none⟩ = some (.slice E k l)) (go_keep)
  (first
    |(go_at_call_of 81 (Value.slice B m d)
      refine (l02Mul_any B E m d k l bs gs _ (HB.out.below bY.out.drew (Nat.le_refl _)).1 (HE.out.below bY.out.drew (Nat.le_refl _)).1 Hv.out.2.1.1 Hv2.out.2.1.1 ?_).mono ?_
      omega
      rintro e wm3 ⟨vm3,rfl,ho,hb⟩
      obtain ⟨Am3,cm3,rfl⟩:=ho.shape
      have HOm3:=Hd ho
      clear ho
      have b8:=Hd (bR.out.drew.after hb)
      have bZ:=Hd (bS.out.drew.after hb)
      have aZ:=Hd (aY.out.drew.after hb)
      have cJ:=Hd (bT.out.drew.after hb)
      have cK:=Hd (bU.out.drew.after hb)
      have b0:=Hd (a5.out.drew.after hb)
      have cL:=Hd (OwnV.below (w:=w8a.drew) bV.out hb)
      have cM:=Hd (OwnV.below (w:=w8a.drew) bW.out hb)
      have b1:=Hd (OwnV.below (w:=w8a.drew) bX.out hb)
      have dS:=Hd (bY.out.drew.trans (hb.mono bY.out.drew.size))
      clear hb
      obtain ⟨c4,c5⟩:=b0.out.c2
      obtain ⟨dT,dU,dV⟩:=b8.out.c3
      obtain ⟨dW,dX⟩:=bZ.out.c2
      have dY:=bZ.out.cell 2 _ rfl)
    |(go_at_call 80
      refine (l04Low_let g8 A8 (nats M8).length c8 M8 Am3 _ cm3 (dig (val bs * val gs)) z bv HZ8.out ?_ _ b1.out.arg HOm3.out.arg HCM8.out.1 (dig_can _).1 HLM8.out ?_ RS RN RD HLS.out HLN.out HLD.out).mono ?_
      rw [val_dig]; exact Hbv.out
      rw [nats_len]; exact HLB.out
      rintro e w9 ⟨v9n,v9d,rfl,hon,hod,apn,apd,hb⟩
      obtain ⟨A9n,c9n,rfl⟩:=hon.shape
      obtain ⟨A9d,c9d,rfl⟩:=hod.shape
      have HO9n:=Hd hon
      have HO9d:=Hd hod
      have AP_O9n_O9d:=Hd apn
      have AP_O9d_O9n:=Hd apd
      clear hon hod apn apd
      have dZ:=Hd (b8.out.after hb)
      have d0:=Hd (bZ.out.after hb)
      have aI:=Hd (aZ.out.after hb)
      have eA:=Hd (cJ.out.after hb)
      have eB:=Hd (cK.out.after hb)
      have cN:=Hd (b0.out.after hb)
      have eC:=Hd (OwnV.below (w:=wm3) cL.out hb)
      have eD:=Hd (OwnV.below (w:=wm3) cM.out hb)
      have eE:=Hd (OwnV.below (w:=wm3) b1.out hb)
      have d9:=Hd (OwnV.below (w:=wm3) HOm3.out hb)
      have eF:=Hd (dS.out.trans (hb.mono dS.out.size))
      clear hb
      obtain ⟨c6,c7⟩:=cN.out.c2
      obtain ⟨d1,d2,d3⟩:=dZ.out.c3
      obtain ⟨d4,d5,d6⟩:=d0.out.c3
      obtain ⟨cO,b9,cP,cA⟩:=aI.out.g2
      have cQ:=aI.out.cell 2 _ rfl
      have cB:=aI.out.froz 2 _ rfl))
 go_wp2
 obtain ⟨hr0,hr1,hr2⟩:=aI.out.c3
 exact bodyPost_ret (v:=.agg #[.bool RS,.slice A9n (nats RN).length c9n,.slice A9d (nats RD).length c9d]) (by simp [results,Tryz.results65,go_sem,hr0,hr1,hr2]) rfl (ownRR_close eF.out HO9n.out HO9d.out aZ.out.lt aZ.out.lt (by omega) AP_O9n_O9d.out AP_O9d_O9n.out)
end Go.Proofs.YtodoiekbjjiocaaGreat
namespace Go.Proofs.YtodoiekbjjiocaaGreat
open Go.RowKit Nt
set_option linter.unusedVariables false
set_option maxRecDepth 100000
set_option maxHeartbeats 4000000
theorem l04Add_at (s : Bool) (A : Option Addr) (n c : Nat) (ds : List Nat) (B : Option Addr) (m d : Nat) (bs : List Nat) (t : Bool) (C : Option Addr) (p q : Nat) (es : List Nat) (E : Option Addr) (k l : Nat) (gs : List Nat) (z : Int) (bv : Nat) (hz : signed s (val ds) * (val gs : Int) + signed t (val es) * (val bs : Int) = z) (hbv : val bs * val gs = bv) (w : World) (hA : Arg w A n c (nats ds)) (hB : Arg w B m d (nats bs)) (hv : Valid ds bs) (hC : Arg w C p q (nats es)) (hE : Arg w E k l (nats gs)) (hv2 : Valid es gs) :
 Calls Tryz.prog 65 #[.agg #[.bool s,.slice A n c,.slice B m d],.agg #[.bool t,.slice C p q,.slice E k l]] w (OwnRR 3 (loS z bv) (nats (loN z bv)) (nats (loD z bv)) w):=by
 by_cases h1 : isOne bs = true
 ·by_cases h2 : isOne gs = true
  ·exact l04Add_one s A n c ds B m d bs t C p q es E k l gs z bv hz hbv w hA hB hv hC hE hv2 h1 h2
  ·exact l04Add_mix s A n c ds B m d bs t C p q es E k l gs z bv hz hbv w hA hB hv hC hE hv2 h1 (by simpa using h2)
 ·exact l04Add_two s A n c ds B m d bs t C p q es E k l gs z bv hz hbv w hA hB hv hC hE hv2 (by simpa using h1)
theorem ratAdd_spec (s : Bool) (A : Option Addr) (n c : Nat) (xs : List Int) (B : Option Addr) (m d : Nat) (ys : List Int) (t : Bool) (C : Option Addr) (p q : Nat) (us : List Int) (E : Option Addr) (k l : Nat) (vs : List Int) (w : World) (hA : Arg w A n c (ints xs)) (hB : Arg w B m d (ints ys)) (hC : Arg w C p q (ints us)) (hE : Arg w E k l (ints vs)) :
 Calls Tryz.prog 40 #[.agg #[.bool s,.slice A n c,.slice B m d],.agg #[.bool t,.slice C p q,.slice E k l]] w (OwnRR 3 (rtS (okR s xs ys && okR t us vs) (zOf s xs * (val (toN vs) : Int) + zOf t us * (val (toN ys) : Int)) (val (toN ys) * val (toN vs))) (nats (rtN (okR s xs ys && okR t us vs) (zOf s xs * (val (toN vs) : Int) + zOf t us * (val (toN ys) : Int)) (val (toN ys) * val (toN vs)))) (nats (rtD (okR s xs ys && okR t us vs) (zOf s xs * (val (toN vs) : Int) + zOf t us * (val (toN ys) : Int)) (val (toN ys) * val (toN vs)))) w):=by
 obtain ⟨z,hz⟩ : ∃ y9,zOf s xs * (val (toN vs) : Int) + zOf t us * (val (toN ys) : Int) = y9:=⟨_,rfl⟩
 obtain ⟨bv,hbv⟩ : ∃ y9,val (toN ys) * val (toN vs) = y9:=⟨_,rfl⟩
 rw [hz,hbv]
 have Hz:=Hd hz
 have Hbv:=Hd hbv
 clear hz hbv
 obtain ⟨RS,hRS⟩ : ∃ y9,rtS (okR s xs ys && okR t us vs) z bv = y9:=⟨_,rfl⟩
 obtain ⟨RN,hRN⟩ : ∃ y9,rtN (okR s xs ys && okR t us vs) z bv = y9:=⟨_,rfl⟩
 obtain ⟨RD,hRD⟩ : ∃ y9,rtD (okR s xs ys && okR t us vs) z bv = y9:=⟨_,rfl⟩
 rw [hRS,hRN,hRD]
 have HRS:=Hd hRS
 have HRN:=Hd hRN
 have HRD:=Hd hRD
 clear hRS hRN hRD
 have HA:=Hd hA
 have HB:=Hd hB
 have HC:=Hd hC
 have HE:=Hd hE
 clear hA hB hC hE
 go_enter Tryz.func40,Tryz.ntmps40
 have aU:=Hd ((((Below.refl w.heap.size w).alloc (Nat.le_refl _) (.cells #[.bool s,.slice A n c,.slice B m d] 35)).alloc (by simp) (.cells #[.bool t,.slice C p q,.slice E k l] 35)).alloc (by simp; omega) (.cells #[.bool false,.slice none 0 0,.slice none 0 0] 35))
 have bG:=Hd (((HeldL.new_at w (w.heap.size) [.bool s,.slice A n c,.slice B m d] 35 (by first | rfl | simp)).alloc (.cells #[.bool t,.slice C p q,.slice E k l] 35)).alloc (.cells #[.bool false,.slice none 0 0,.slice none 0 0] 35))
 have bH:=Hd ((HeldL.new_at (w.alloc (.cells #[.bool s,.slice A n c,.slice B m d] 35)) (w.heap.size + 1) [.bool t,.slice C p q,.slice E k l] 35 (by first | rfl | simp)).alloc (.cells #[.bool false,.slice none 0 0,.slice none 0 0] 35))
 have aV:=Hd (HeldL.new_at ((w.alloc (.cells #[.bool s,.slice A n c,.slice B m d] 35)).alloc (.cells #[.bool t,.slice C p q,.slice E k l] 35)) (w.heap.size + 1 + 1) [.bool false,.slice none 0 0,.slice none 0 0] 35 (by first | rfl | simp))
 have bJ : w.heap.size ≠ w.heap.size + 1:=by omega
 have bC : w.heap.size ≠ w.heap.size + 1 + 1:=by omega
 have bK : w.heap.size + 1 ≠ w.heap.size:=by omega
 have bD : w.heap.size + 1 ≠ w.heap.size + 1 + 1:=by omega
 have bE : w.heap.size + 1 + 1 ≠ w.heap.size:=by omega
 have bF : w.heap.size + 1 + 1 ≠ w.heap.size + 1:=by omega
 go_wp2_with fail
 refine (ratOk_spec s A n c xs B m d ys _ (HA.out.below aU.out (Nat.le_refl _)) (HB.out.below aU.out (Nat.le_refl _))).mono ?_
 rintro e w1 ⟨rfl,hb⟩
 have bI:=Hd (bG.out.after hb)
 have aW:=Hd (bH.out.after hb)
 have aH:=Hd (aV.out.after hb)
 have aK:=Hd (aU.out.trans (hb.mono aU.out.size))
 clear hb
 by_cases hok : okR s xs ys = true
 ·rw [hok]
  obtain ⟨aL,aM,aN⟩:=aW.out.c3
  go_wp2_with fail
  refine (ratOk_spec t C p q us E k l vs _ (HC.out.below aK.out (Nat.le_refl _)) (HE.out.below aK.out (Nat.le_refl _))).mono ?_
  rintro e w2 ⟨rfl,hb⟩
  have aX:=Hd (bI.out.after hb)
  have aY:=Hd (aW.out.after hb)
  have aA:=Hd (aH.out.after hb)
  have aI:=Hd (aK.out.trans (hb.mono aK.out.size))
  clear hb
  clear aL
  clear aM
  clear aN
  by_cases hok2 : okR t us vs = true
  ·rw [hok2]
   obtain ⟨hex,hey,hval⟩:=okR_nats hok
   have HAn:=Hd (hex ▸ HA.out)
   have HBn:=Hd (hey ▸ HB.out)
   have HV:=Hd hval
   have HOK:=Hd hok
   clear hex hey hval hok
   obtain ⟨hex,hey,hval⟩:=okR_nats hok2
   have HCn:=Hd (hex ▸ HC.out)
   have HEn:=Hd (hey ▸ HE.out)
   have HV2:=Hd hval
   have HOK2:=Hd hok2
   clear hex hey hval hok2
   have HLS:=Hd (show loS z bv = RS by rw [← HRS.out]; exact (rtS_yes (by rw [HOK.out,HOK2.out]; rfl)).symm)
   have HLN:=Hd (show loN z bv = RN by rw [← HRN.out]; exact (rtN_yes (by rw [HOK.out,HOK2.out]; rfl)).symm)
   have HLD:=Hd (show loD z bv = RD by rw [← HRD.out]; exact (rtD_yes (by rw [HOK.out,HOK2.out]; rfl)).symm)
   obtain ⟨aO,aP,aQ⟩:=aX.out.c3
   obtain ⟨aR,aS,aT⟩:=aY.out.c3
   obtain ⟨aE,aB,aF,aC,aG,aD⟩:=aA.out.g3
   go_wp2_with fail
   have HCM:=Hd (l04Add_at s A n c (toN xs) B m d (toN ys) t C p q (toN us) E k l (toN vs) z bv Hz.out Hbv.out _ (HAn.out.below aI.out (Nat.le_refl _)) (HBn.out.below aI.out (Nat.le_refl _)) HV.out (HCn.out.below aI.out (Nat.le_refl _)) (HEn.out.below aI.out (Nat.le_refl _)) HV2.out)
   rw [HLS.out,HLN.out,HLD.out] at HCM
   refine (HCM.out).mono ?_
   rintro e w9 ⟨v9n,v9d,rfl,hon,hod,apn,apd,hb⟩
   obtain ⟨A9n,c9n,rfl⟩:=hon.shape
   have HO9n:=Hd hon
   obtain ⟨A9d,c9d,rfl⟩:=hod.shape
   have HO9d:=Hd hod
   have AP_O9n_O9d:=Hd apn
   have AP_O9d_O9n:=Hd apd
   clear hon hod apn apd
   have bM:=Hd (aX.out.after hb)
   have bN:=Hd (aY.out.after hb)
   have aJ:=Hd (aA.out.after hb)
   have bL:=Hd (aI.out.trans (hb.mono aI.out.size))
   clear hb
   clear aO
   clear aP
   clear aQ
   clear aR
   clear aS
   clear aT
   clear aE
   clear aB
   clear aF
   clear aC
   clear aG
   clear aD
   obtain ⟨a6,aZ,a7,a0,a8,a2⟩:=aJ.out.g3
   go_wp2
   obtain ⟨hr0,hr1,hr2⟩:=aJ.out.c3
   exact bodyPost_ret (v:=.agg #[.bool RS,.slice A9n (nats RN).length c9n,.slice A9d (nats RD).length c9d]) (by simp [results,Tryz.results40,go_sem,hr0,hr1,hr2]) rfl (ownRR_close bL.out HO9n.out HO9d.out aA.out.lt aA.out.lt (by omega) AP_O9n_O9d.out AP_O9d_O9n.out)
  ·rw [Bool.not_eq_true] at hok2
   rw [hok2]
   obtain rfl : RS = false:=by rw [← HRS.out]; exact rtS_no (by rw [hok2,Bool.and_false])
   obtain rfl : RN = []:=by rw [← HRN.out]; exact rtN_no (by rw [hok2,Bool.and_false])
   obtain rfl : RD = []:=by rw [← HRD.out]; exact rtD_no (by rw [hok2,Bool.and_false])
   obtain ⟨aE,aB,aF,aC,aG,aD⟩:=aA.out.g3
   go_wp2
   obtain ⟨hr0,hr1,hr2⟩:=aA.out.c3
   refine bodyPost_ret (v:=.agg #[.bool false,.slice none 0 0,.slice none 0 0]) (by simp [results,Tryz.results40,go_sem,hr0,hr1,hr2]) rfl ?_
   exact ownRR_close aI.out (OwnV.nil _ (w.heap.size + 1 + 1 + 1) _) (OwnV.nil _ (w.heap.size + 1 + 1 + 1) _) (Nat.lt_succ_self _) (Nat.lt_succ_self _) (by omega) (.inl rfl) (.inl rfl)
 ·rw [Bool.not_eq_true] at hok
  rw [hok]
  obtain rfl : RS = false:=by rw [← HRS.out]; exact rtS_no (by rw [hok,Bool.false_and])
  obtain rfl : RN = []:=by rw [← HRN.out]; exact rtN_no (by rw [hok,Bool.false_and])
  obtain rfl : RD = []:=by rw [← HRD.out]; exact rtD_no (by rw [hok,Bool.false_and])
  obtain ⟨a9,a3,bA,a4,bB,a5⟩:=aH.out.g3
  go_wp2
  obtain ⟨hr0,hr1,hr2⟩:=aH.out.c3
  refine bodyPost_ret (v:=.agg #[.bool false,.slice none 0 0,.slice none 0 0]) (by simp [results,Tryz.results40,go_sem,hr0,hr1,hr2]) rfl ?_
  exact ownRR_close aK.out (OwnV.nil _ (w.heap.size + 1 + 1 + 1) _) (OwnV.nil _ (w.heap.size + 1 + 1 + 1) _) (Nat.lt_succ_self _) (Nat.lt_succ_self _) (by omega) (.inl rfl) (.inl rfl)
end Go.Proofs.YtodoiekbjjiocaaGreat
namespace Go.Proofs.YtodoiekbjjiocaaGreat
open Go.RowKit Nt
set_option linter.unusedVariables false
set_option maxRecDepth 100000
set_option maxHeartbeats 4000000
theorem l04Neg_at (s : Bool) (A : Option Addr) (n c : Nat) (xs : List Int) (B : Option Addr) (m d : Nat) (ys : List Int) (RS : Bool) (RN RD : List Nat) (hS : sgZ (-(zOf s xs)) = RS) (hN : magZ (-(zOf s xs)) = RN) (hD : toN ys = RD) (hok : okR s xs ys = true) (w : World) (hA : Arg w A n c (ints xs)) (hB : Arg w B m d (ints ys)) :
 Calls Tryz.prog 83 #[.agg #[.bool s,.slice A n c,.slice B m d]] w (OwnRR 3 RS (nats RN) (nats RD) w):=by
 obtain ⟨i0,hi,hz0,hz1,hz2⟩:=info_parts info_int
 obtain ⟨hex,hey,hval⟩:=okR_nats hok
 have HZN:=Hd (show signed (!s) (val (toN xs)) = -(zOf s xs) by rw [signed_neg]; rfl)
 have HAn:=Hd (hex ▸ hA)
 have HBn:=Hd (hD ▸ hey ▸ hB)
 have hmm : m = RD.length:=HBn.out.nlen.symm
 have hm0 : 0 < m:=by have:=hval.2.2.2.2; rw [hD] at this; omega
 have hm1 : m ≤ 24:=by have:=hval.2.2.2.1; rw [hD] at this; omega
 have aO:=Hd hm0
 have aP:=Hd (show m ≤ maxLen by unfold maxLen; omega)
 have aQ:=Hd (show m * 8 ≤ 140737488355328 by omega)
 have HOC:=Hd (nats_oneCell RD)
 have HV:=Hd hval.1.1
 clear hex hey hval hD hok hmm hm0 hm1
 have HA:=Hd hA
 have HB:=Hd hB
 have HS:=Hd hS
 have HN:=Hd hN
 clear hA hB hS hN
 go_enter Tryz.func83,Tryz.ntmps83
 have aB:=Hd (((Below.refl w.heap.size w).alloc (Nat.le_refl _) (.cells #[.bool s,.slice A n c,.slice B m d] 35)).alloc (by simp) (.cells #[.bool false,.slice none 0 0,.slice none 0 0] 35))
 have aI:=Hd ((HeldL.new_at w (w.heap.size) [.bool s,.slice A n c,.slice B m d] 35 (by first | rfl | simp)).alloc (.cells #[.bool false,.slice none 0 0,.slice none 0 0] 35))
 have aA:=Hd (HeldL.new_at (w.alloc (.cells #[.bool s,.slice A n c,.slice B m d] 35)) (w.heap.size + 1) [.bool false,.slice none 0 0,.slice none 0 0] 35 (by first | rfl | simp))
 have aM : w.heap.size ≠ w.heap.size + 1:=by omega
 have aN : w.heap.size + 1 ≠ w.heap.size:=by omega
 go_upto_region 1 with fail
 obtain ⟨w0,hw0⟩ : ∃ u,((w.alloc (.cells #[.bool s,.slice A n c,.slice B m d] 35)).alloc (.cells #[.bool false,.slice none 0 0,.slice none 0 0] 35)) = u:=⟨_,rfl⟩
 rw [hw0] at aI aA aB ⊢
 clear hw0
 obtain ⟨aJ,aK,aL⟩:=aI.out.c3
 obtain ⟨aF,aC,aG,aD,aH,aE⟩:=aA.out.g3
 go_cut [2] (fun ptr wx=>ptr = .pointer (some ⟨w.heap.size + 1,0,none⟩) ∧ ∃ A1 c1 A2 c2,HeldL wx (w.heap.size + 1) [.bool RS,.slice A1 (nats RN).length c1,.slice A2 (nats RD).length c2] ∧ OwnV wx w.heap.size 3 (.slice A1 (nats RN).length c1) (nats RN) ∧ OwnV wx w.heap.size 3 (.slice A2 (nats RD).length c2) (nats RD) ∧ ((Value.slice A1 (nats RN).length c1).ownBlock = none ∨ (Value.slice A1 (nats RN).length c1).ownBlock ≠ (Value.slice A2 (nats RD).length c2).ownBlock) ∧ ((Value.slice A2 (nats RD).length c2).ownBlock = none ∨ (Value.slice A2 (nats RD).length c2).ownBlock ≠ (Value.slice A1 (nats RN).length c1).ownBlock) ∧ Below w.heap.size w wx)
 case first=>
  go_region_held3 (fun w' =>w'.cell? ⟨w.heap.size,0,none⟩ = some (.bool s) ∧ w'.cell? ⟨w.heap.size,1,none⟩ = some (.slice A n c) ∧ w'.cell? ⟨w.heap.size,2,none⟩ = some (.slice B m d)) (go_keep)
   (first
     |(go_at_call 84
       refine (l03Make_let (!s) A n c (toN xs) (-(zOf s xs)) RS RN HZN.out HS.out HN.out _ ?_ HV.out).mono ?_
       first | exact HAn.out.below aB.out.drew (Nat.le_refl _) | exact HAn.out.below (aB.out.alloc aB.out.size (.cells #[] 3)).drew (Nat.le_refl _)
       rintro e w1 ⟨v1,rfl,ho,hb⟩
       obtain ⟨A1,c1,rfl⟩:=ho.shape
       have T9 : HeldL w1 (w.heap.size) [.bool s,.slice A n c,.slice B m d]:=by first | exact aI.out.drew.after hb | exact (aI.out.alloc (.cells #[] 3)).drew.after hb
       have KA1:=Hd T9
       clear T9
       have T9 : HeldL w1 (w.heap.size + 1) [.bool false,.slice none 0 0,.slice none 0 0]:=by first | exact aA.out.drew.after hb | exact (aA.out.alloc (.cells #[] 3)).drew.after hb
       have KR1:=Hd T9
       clear T9
       have T9 : OwnV w1 w0.heap.size 3 (.slice A1 (nats RN).length c1) (nats RN):=by first | exact ho.based (Nat.le_refl _) | exact ho.based (by simp)
       have HO1:=Hd T9
       clear T9 ho
       have T9 : Below w.heap.size w w1:=by first | exact (aB.out.drew).trans (hb.mono (aB.out.drew).size) | exact ((aB.out.alloc aB.out.size (.cells #[] 3)).drew).trans (hb.mono ((aB.out.alloc aB.out.size (.cells #[] 3)).drew).size)
       have HB1:=Hd T9
       clear T9 hb
       obtain ⟨hka1_0,hka1_1⟩:=KA1.out.c2
       have hka1_2:=KA1.out.cell 2 _ rfl)
     |(refine step_append_fresh rfl (.tmp 11) (.tmp 13) 23 rfl 3 i0 _ 8 Tryz.underlying23 hi hz0 hz1 hz2 rfl _ (by simp [Act.eval] <;> rfl) B m d (nats RD) (by simp [Act.eval] <;> rfl) aO.out aP.out aQ.out HOC.out ?_ ?_
       first | exact (HBn.out.below HB1.out (Nat.le_refl _)).1 | exact (HBn.out.below (HB1.out.alloc HB1.out.size (.cells #[] 3)) (Nat.le_refl _)).1
       intro A2 c2 w2 ho hb
       have T9 : HeldL w2 (w.heap.size) [.bool s,.slice A n c,.slice B m d]:=by first | exact KA1.out.after hb | exact (KA1.out.alloc (.cells #[] 3)).after hb
       have KA2:=Hd T9
       clear T9
       have T9 : HeldL w2 (w.heap.size + 1) [.bool false,.slice none 0 0,.slice none 0 0]:=by first | exact KR1.out.after hb | exact (KR1.out.alloc (.cells #[] 3)).after hb
       have KR2:=Hd T9
       clear T9
       have T9 : OwnV w2 w0.heap.size 3 (.slice A1 (nats RN).length c1) (nats RN):=by first | exact OwnV.below HO1.out hb | exact OwnV.below (OwnV.below HO1.out ((Below.refl _ w1).alloc (Nat.le_refl _) (.cells #[] 3))) hb
       have HO1b:=Hd T9
       clear T9
       have AP1:=Hd (show (Value.slice A1 (nats RN).length c1).ownBlock = none ∨ (Value.slice A1 (nats RN).length c1).ownBlock ≠ (Value.slice A2 (nats RD).length c2).ownBlock by first | exact OwnV.apart HO1.out ho (Nat.le_refl _) | exact OwnV.apart HO1.out ho (by simp))
       have AP2:=Hd (show (Value.slice A2 (nats RD).length c2).ownBlock = none ∨ (Value.slice A2 (nats RD).length c2).ownBlock ≠ (Value.slice A1 (nats RN).length c1).ownBlock by first | exact OwnV.apart' ho HO1.out (Nat.le_refl _) | exact OwnV.apart' ho HO1.out (by simp))
       have T9 : OwnV w2 w1.heap.size 3 (.slice A2 (nats RD).length c2) (nats RD):=by first | exact ho.based (Nat.le_refl _) | exact ho.based (by simp)
       have HO2:=Hd T9
       clear T9 ho
       have T9 : Below w.heap.size w w2:=by first | exact HB1.out.trans (hb.mono HB1.out.size) | exact (HB1.out.alloc HB1.out.size (.cells #[] 3)).trans (hb.mono (HB1.out.alloc HB1.out.size (.cells #[] 3)).size)
       have HB2:=Hd T9
       clear T9 hb
       obtain ⟨hka2_0,hka2_1,hka2_2⟩:=KA2.out.c3
       obtain ⟨hkr2_0,hkr2_1,hkr2_2⟩:=KR2.out.c3
       obtain ⟨hkf2_0,hkf2_1⟩:=KR2.out.f2
       have hkf2_2:=KR2.out.froz 2 _ rfl))
  all_goals go_wp2_with fail
  all_goals go_meet
  all_goals refine ⟨rfl,A1,c1,A2,c2,?_,?_,?_,AP1.out,AP2.out,?_⟩
  all_goals first
   | exact ((KR2.out.set 0 _ _ rfl).set 1 _ _ rfl).set 2 _ _ rfl
   | exact (((HO1b.out.setBelow aA.out.lt _).setBelow aA.out.lt _).setBelow aA.out.lt _).based aB.out.size
   | exact (((HO2.out.setBelow KR1.out.lt _).setBelow KR1.out.lt _).setBelow KR1.out.lt _).based HB1.out.size
   | exact ((HB2.out.setCell (by simp) _).setCell (by simp) _).setCell (by simp) _
 clear aJ
 clear aK
 clear aL
 clear aF
 clear aC
 clear aG
 clear aD
 clear aH
 clear aE
 obtain ⟨rfl,A1,c1,A2,c2,hkr,ho1,ho2,ap1,ap2,hbw⟩:=hcut
 have aR:=Hd hkr
 have HO1:=Hd ho1
 have HO2:=Hd ho2
 have AP1:=Hd ap1
 have AP2:=Hd ap2
 have HBW:=Hd hbw
 clear hkr ho1 ho2 ap1 ap2 hbw
 go_wp2
 obtain ⟨hr0,hr1,hr2⟩:=aR.out.c3
 exact bodyPost_ret (v:=.agg #[.bool RS,.slice A1 (nats RN).length c1,.slice A2 (nats RD).length c2]) (by simp [results,Tryz.results83,go_sem,hr0,hr1,hr2]) rfl ⟨_,_,rfl,HO1.out,HO2.out,AP1.out,AP2.out,HBW.out⟩
theorem ratSub_spec (s : Bool) (A : Option Addr) (n c : Nat) (xs : List Int) (B : Option Addr) (m d : Nat) (ys : List Int) (t : Bool) (C : Option Addr) (p q : Nat) (us : List Int) (E : Option Addr) (k l : Nat) (vs : List Int) (w : World) (hA : Arg w A n c (ints xs)) (hB : Arg w B m d (ints ys)) (hC : Arg w C p q (ints us)) (hE : Arg w E k l (ints vs)) :
 Calls Tryz.prog 52 #[.agg #[.bool s,.slice A n c,.slice B m d],.agg #[.bool t,.slice C p q,.slice E k l]] w (OwnRR 3 (rtS (okR s xs ys && okR t us vs) (zOf s xs * (val (toN vs) : Int) - zOf t us * (val (toN ys) : Int)) (val (toN ys) * val (toN vs))) (nats (rtN (okR s xs ys && okR t us vs) (zOf s xs * (val (toN vs) : Int) - zOf t us * (val (toN ys) : Int)) (val (toN ys) * val (toN vs)))) (nats (rtD (okR s xs ys && okR t us vs) (zOf s xs * (val (toN vs) : Int) - zOf t us * (val (toN ys) : Int)) (val (toN ys) * val (toN vs)))) w):=by
 obtain ⟨z,hz⟩ : ∃ y9,zOf s xs * (val (toN vs) : Int) - zOf t us * (val (toN ys) : Int) = y9:=⟨_,rfl⟩
 obtain ⟨bv,hbv⟩ : ∃ y9,val (toN ys) * val (toN vs) = y9:=⟨_,rfl⟩
 rw [hz,hbv]
 have Hz:=Hd hz
 have Hbv:=Hd hbv
 clear hz hbv
 obtain ⟨RS,hRS⟩ : ∃ y9,rtS (okR s xs ys && okR t us vs) z bv = y9:=⟨_,rfl⟩
 obtain ⟨RN,hRN⟩ : ∃ y9,rtN (okR s xs ys && okR t us vs) z bv = y9:=⟨_,rfl⟩
 obtain ⟨RD,hRD⟩ : ∃ y9,rtD (okR s xs ys && okR t us vs) z bv = y9:=⟨_,rfl⟩
 rw [hRS,hRN,hRD]
 have HRS:=Hd hRS
 have HRN:=Hd hRN
 have HRD:=Hd hRD
 clear hRS hRN hRD
 have HA:=Hd hA
 have HB:=Hd hB
 have HC:=Hd hC
 have HE:=Hd hE
 clear hA hB hC hE
 go_enter Tryz.func52,Tryz.ntmps52
 have aQ:=Hd ((((Below.refl w.heap.size w).alloc (Nat.le_refl _) (.cells #[.bool s,.slice A n c,.slice B m d] 35)).alloc (by simp) (.cells #[.bool t,.slice C p q,.slice E k l] 35)).alloc (by simp; omega) (.cells #[.bool false,.slice none 0 0,.slice none 0 0] 35))
 have bE:=Hd (((HeldL.new_at w (w.heap.size) [.bool s,.slice A n c,.slice B m d] 35 (by first | rfl | simp)).alloc (.cells #[.bool t,.slice C p q,.slice E k l] 35)).alloc (.cells #[.bool false,.slice none 0 0,.slice none 0 0] 35))
 have bF:=Hd ((HeldL.new_at (w.alloc (.cells #[.bool s,.slice A n c,.slice B m d] 35)) (w.heap.size + 1) [.bool t,.slice C p q,.slice E k l] 35 (by first | rfl | simp)).alloc (.cells #[.bool false,.slice none 0 0,.slice none 0 0] 35))
 have aR:=Hd (HeldL.new_at ((w.alloc (.cells #[.bool s,.slice A n c,.slice B m d] 35)).alloc (.cells #[.bool t,.slice C p q,.slice E k l] 35)) (w.heap.size + 1 + 1) [.bool false,.slice none 0 0,.slice none 0 0] 35 (by first | rfl | simp))
 have b1 : w.heap.size ≠ w.heap.size + 1:=by omega
 have bA : w.heap.size ≠ w.heap.size + 1 + 1:=by omega
 have b2 : w.heap.size + 1 ≠ w.heap.size:=by omega
 have bB : w.heap.size + 1 ≠ w.heap.size + 1 + 1:=by omega
 have bC : w.heap.size + 1 + 1 ≠ w.heap.size:=by omega
 have bD : w.heap.size + 1 + 1 ≠ w.heap.size + 1:=by omega
 go_wp2_with fail
 refine (ratOk_spec s A n c xs B m d ys _ (HA.out.below aQ.out (Nat.le_refl _)) (HB.out.below aQ.out (Nat.le_refl _))).mono ?_
 rintro e w1 ⟨rfl,hb⟩
 have bG:=Hd (bE.out.after hb)
 have aT:=Hd (bF.out.after hb)
 have aC:=Hd (aR.out.after hb)
 have aK:=Hd (aQ.out.trans (hb.mono aQ.out.size))
 clear hb
 by_cases hok : okR s xs ys = true
 ·rw [hok]
  obtain ⟨aL,aM,aN⟩:=aT.out.c3
  go_wp2_with fail
  refine (ratOk_spec t C p q us E k l vs _ (HC.out.below aK.out (Nat.le_refl _)) (HE.out.below aK.out (Nat.le_refl _))).mono ?_
  rintro e w2 ⟨rfl,hb⟩
  have aU:=Hd (bG.out.after hb)
  have aV:=Hd (aT.out.after hb)
  have aA:=Hd (aC.out.after hb)
  have aO:=Hd (aK.out.trans (hb.mono aK.out.size))
  clear hb
  clear aL
  clear aM
  clear aN
  by_cases hok2 : okR t us vs = true
  ·rw [hok2]
   obtain ⟨hex,hey,hval⟩:=okR_nats hok
   have HAn:=Hd (hex ▸ HA.out)
   have HBn:=Hd (hey ▸ HB.out)
   have HV:=Hd hval
   have HOK:=Hd hok
   clear hex hey hval hok
   obtain ⟨hex,hey,hval⟩:=okR_nats hok2
   have HCn:=Hd (hex ▸ HC.out)
   have HEn:=Hd (hey ▸ HE.out)
   have HV2:=Hd hval
   have HOK2:=Hd hok2
   clear hex hey hval hok2
   have HLS:=Hd (show loS z bv = RS by rw [← HRS.out]; exact (rtS_yes (by rw [HOK.out,HOK2.out]; rfl)).symm)
   have HLN:=Hd (show loN z bv = RN by rw [← HRN.out]; exact (rtN_yes (by rw [HOK.out,HOK2.out]; rfl)).symm)
   have HLD:=Hd (show loD z bv = RD by rw [← HRD.out]; exact (rtD_yes (by rw [HOK.out,HOK2.out]; rfl)).symm)
   obtain ⟨g7,hg7⟩ : ∃ y9,sgZ (-(zOf t us)) = y9:=⟨_,rfl⟩
   obtain ⟨M7,hM7⟩ : ∃ y9,magZ (-(zOf t us)) = y9:=⟨_,rfl⟩
   have hsm : (-(zOf t us)).natAbs < 1000000000 ^ 60:=by rw [Int.natAbs_neg]; exact okB_abs (okR_parts HOK2.out).1
   have HBK:=Hd (show signed g7 (val M7) = -(zOf t us) by rw [← hg7,← hM7]; exact back_z hsm)
   have HV7:=Hd (show Valid M7 (toN vs) by refine ⟨hM7 ▸ magZ_can _,HV2.out.2.1,?_,HV2.out.2.2.2⟩; rw [← hM7,magZ_small hsm,Int.natAbs_neg,zOf,signed_abs,dig_of_can HV2.out.1]; exact HV2.out.2.2.1)
   have HZ7:=Hd (show signed s (val (toN xs)) * (val (toN vs) : Int) + signed g7 (val M7) * (val (toN ys) : Int) = z by rw [HBK.out,Int.neg_mul,← Hz.out]; rfl)
   have Hg7:=Hd hg7
   have b6:=Hd hM7
   clear hg7 hM7 hsm
   obtain ⟨bH,bI,bJ⟩:=aU.out.c3
   obtain ⟨bK,bL,bM⟩:=aV.out.c3
   obtain ⟨aH,aE,aI,aF,aJ,aG⟩:=aA.out.g3
   go_wp2
   go_region_held3 (fun w' =>w'.cell? ⟨w.heap.size,0,none⟩ = some (.bool s) ∧ w'.cell? ⟨w.heap.size,1,none⟩ = some (.slice A n c) ∧ w'.cell? ⟨w.heap.size,2,none⟩ = some (.slice B m d) ∧ w'.cell? ⟨w.heap.size + 1,0,none⟩ = some (.bool t) ∧ w'.cell? ⟨w.heap.size + 1,1,none⟩ = some (.slice C p q) ∧ w'.cell? ⟨w.heap.size + 1,2,none⟩ = some (.slice E k l)) (go_keep)
    (first
      |(go_at_call 83
        refine (l04Neg_at t C p q us E k l vs g7 M7 (toN vs) Hg7.out b6.out rfl HOK2.out _ (HC.out.below aO.out.drew (Nat.le_refl _)) (HE.out.below aO.out.drew (Nat.le_refl _))).mono ?_
        rintro e w7 ⟨v7n,v7d,rfl,hon,hod,apn,apd,hb⟩
        obtain ⟨A7n,c7n,rfl⟩:=hon.shape
        obtain ⟨A7d,c7d,rfl⟩:=hod.shape
        have HO7n:=Hd hon
        have HO7d:=Hd hod
        clear hon hod apn apd
        have aW:=Hd (aU.out.drew.after hb)
        have aP:=Hd (aV.out.drew.after hb)
        have aD:=Hd (aA.out.drew.after hb)
        have aS:=Hd (aO.out.drew.trans (hb.mono aO.out.drew.size))
        clear hb
        obtain ⟨bN,bO,bP⟩:=aW.out.c3
        obtain ⟨bQ,bR⟩:=aP.out.c2
        have bS:=aP.out.cell 2 _ rfl)
      |(go_at_call 65
        have HADD:=fun u h1 h2 h3 h4=>l04Add_at s A n c (toN xs) B m d (toN ys) g7 A7n (nats M7).length c7n M7 A7d (nats (toN vs)).length c7d (toN vs) z bv HZ7.out Hbv.out u h1 h2 HV.out h3 h4 HV7.out
        rw [HLS.out,HLN.out,HLD.out] at HADD
        refine (HADD _ (HAn.out.below aS.out (Nat.le_refl _)) (HBn.out.below aS.out (Nat.le_refl _)) HO7n.out.arg HO7d.out.arg).mono ?_
        clear HADD
        rintro e w9 ⟨v9n,v9d,rfl,hon,hod,apn,apd,hb⟩
        obtain ⟨A9n,c9n,rfl⟩:=hon.shape
        obtain ⟨A9d,c9d,rfl⟩:=hod.shape
        have HO9n:=Hd hon
        have HO9d:=Hd hod
        have AP_O9n_O9d:=Hd apn
        have AP_O9d_O9n:=Hd apd
        clear hon hod apn apd
        have bT:=Hd (aW.out.after hb)
        have bU:=Hd (aP.out.after hb)
        have aB:=Hd (aD.out.after hb)
        have b3:=Hd (OwnV.below (w:=w7) HO7n.out hb)
        have b4:=Hd (OwnV.below (w:=w7) HO7d.out hb)
        have b5:=Hd (aS.out.trans (hb.mono aS.out.size))
        clear hb
        obtain ⟨bV,bW,bX⟩:=bT.out.c3
        obtain ⟨bY,bZ,b0⟩:=bU.out.c3
        obtain ⟨a4,aX,a5,aY⟩:=aB.out.g2
        have a6:=aB.out.cell 2 _ rfl
        have aZ:=aB.out.froz 2 _ rfl))
   go_wp2
   obtain ⟨hr0,hr1,hr2⟩:=aB.out.c3
   exact bodyPost_ret (v:=.agg #[.bool RS,.slice A9n (nats RN).length c9n,.slice A9d (nats RD).length c9d]) (by simp [results,Tryz.results52,go_sem,hr0,hr1,hr2]) rfl (ownRR_close b5.out HO9n.out HO9d.out aD.out.lt aD.out.lt (by omega) AP_O9n_O9d.out AP_O9d_O9n.out)
  ·rw [Bool.not_eq_true] at hok2
   rw [hok2]
   obtain rfl : RS = false:=by rw [← HRS.out]; exact rtS_no (by rw [hok2,Bool.and_false])
   obtain rfl : RN = []:=by rw [← HRN.out]; exact rtN_no (by rw [hok2,Bool.and_false])
   obtain rfl : RD = []:=by rw [← HRD.out]; exact rtD_no (by rw [hok2,Bool.and_false])
   obtain ⟨aH,aE,aI,aF,aJ,aG⟩:=aA.out.g3
   go_wp2
   obtain ⟨hr0,hr1,hr2⟩:=aA.out.c3
   refine bodyPost_ret (v:=.agg #[.bool false,.slice none 0 0,.slice none 0 0]) (by simp [results,Tryz.results52,go_sem,hr0,hr1,hr2]) rfl ?_
   exact ownRR_close aO.out (OwnV.nil _ (w.heap.size + 1 + 1 + 1) _) (OwnV.nil _ (w.heap.size + 1 + 1 + 1) _) (Nat.lt_succ_self _) (Nat.lt_succ_self _) (by omega) (.inl rfl) (.inl rfl)
 ·rw [Bool.not_eq_true] at hok
  rw [hok]
  obtain rfl : RS = false:=by rw [← HRS.out]; exact rtS_no (by rw [hok,Bool.false_and])
  obtain rfl : RN = []:=by rw [← HRN.out]; exact rtN_no (by rw [hok,Bool.false_and])
  obtain rfl : RD = []:=by rw [← HRD.out]; exact rtD_no (by rw [hok,Bool.false_and])
  obtain ⟨a7,a0,a8,a2,a9,a3⟩:=aC.out.g3
  go_wp2
  obtain ⟨hr0,hr1,hr2⟩:=aC.out.c3
  refine bodyPost_ret (v:=.agg #[.bool false,.slice none 0 0,.slice none 0 0]) (by simp [results,Tryz.results52,go_sem,hr0,hr1,hr2]) rfl ?_
  exact ownRR_close aK.out (OwnV.nil _ (w.heap.size + 1 + 1 + 1) _) (OwnV.nil _ (w.heap.size + 1 + 1 + 1) _) (Nat.lt_succ_self _) (Nat.lt_succ_self _) (by omega) (.inl rfl) (.inl rfl)
end Go.Proofs.YtodoiekbjjiocaaGreat
