/- Joined: XRat4a XRat4b XRat4c XRatMin. Conditions: none. -/
import Derived.Test.YtodoiekbjjiocaaGreatJPk
import Derived.Test.YtodoiekbjjiocaaGreatProg
import Derived.Test.YtodoiekbjjiocaaGreatJB5
import Derived.Test.YtodoiekbjjiocaaGreatJB4
import Derived.Test.YtodoiekbjjiocaaGreatJB6
import Derived.Test.YtodoiekbjjiocaaGreatJB2
import Derived.Deep.DeepCutAuto
namespace Go.Proofs.YtodoiekbjjiocaaGreat
open Go.RowKit Nt
set_option linter.unusedVariables false
set_option maxRecDepth 100000
set_option maxHeartbeats 4000000
def IsZ (g : Bool) (M : List Nat) (z : Int) : Prop:=sgZ z = g ∧ magZ z = M ∧ z.natAbs < 1000000000 ^ 60
theorem IsZ.back {g : Bool} {M : List Nat} {z : Int} (h : IsZ g M z) : signed g (val M) = z:=by obtain ⟨rfl,rfl,h3⟩:=h; exact back_z h3
theorem IsZ.can {g : Bool} {M : List Nat} {z : Int} (h : IsZ g M z) : Canon M:=by obtain ⟨rfl,rfl,h3⟩:=h; exact magZ_can z
theorem IsZ.len {g : Bool} {M : List Nat} {z : Int} (h : IsZ g M z) : M.length ≤ 60:=by obtain ⟨rfl,rfl,h3⟩:=h; exact capd_len _
theorem IsZ.ok {g : Bool} {M : List Nat} {z : Int} (h : IsZ g M z) : okB g (M.map fun x : Nat=>(x : Int)) = true:=by
 unfold okB
 rw [okI_of_nats h.can h.len]
 obtain ⟨rfl,rfl,h3⟩:=h
 rw [sgZ_small h3,magZ_small h3]
 by_cases hz : z < 0
 ·have : 0 < (dig z.natAbs).length:=dig_pos_len (by omega)
  simp [hz,this]
 ·simp [hz]
theorem IsZ.z {g : Bool} {M : List Nat} {z : Int} (h : IsZ g M z) : zOf g (M.map fun x : Nat=>(x : Int)) = z:=by rw [zOf,toN_nats]; exact h.back
theorem IsZ.of {z : Int} (h : z.natAbs < 1000000000 ^ 60) : IsZ (sgZ z) (magZ z) z:=⟨rfl,rfl,h⟩
theorem zOf_false (vs : List Int) : zOf false vs = (val (toN vs) : Int):=by simp [zOf,signed]
theorem okB_false (vs : List Int) : okB false vs = okI vs:=by simp [okB]
theorem res_yes {ok : Bool} {z : Int} (h : ok = true) : resS ok z = sgZ z ∧ resM ok z = magZ z:=by subst h; simp [resS,resM]
theorem ratMake_impl (s : Bool) (A : Option Addr) (n c : Nat) (xs : List Int) (t : Bool) (C : Option Addr) (p q : Nat) (us : List Int) (w : World) (hA : Arg w A n c (ints xs)) (hC : Arg w C p q (ints us)) :
 Calls Tryz.prog 98 #[.agg #[.bool s,.slice A n c],.agg #[.bool t,.slice C p q]] w (OwnRR 3 (rtS (okB s xs && okB t us) (signed (s != t) (val (toN xs))) (val (toN us))) (nats (rtN (okB s xs && okB t us) (signed (s != t) (val (toN xs))) (val (toN us)))) (nats (rtD (okB s xs && okB t us) (signed (s != t) (val (toN xs))) (val (toN us)))) w):=by
 obtain ⟨z,hz⟩ : ∃ y9,signed (s != t) (val (toN xs)) = y9:=⟨_,rfl⟩
 obtain ⟨bv,hbv⟩ : ∃ y9,val (toN us) = y9:=⟨_,rfl⟩
 rw [hz,hbv]
 have Hz:=Hd hz
 have Hbv:=Hd hbv
 clear hz hbv
 obtain ⟨RS,hRS⟩ : ∃ y9,rtS (okB s xs && okB t us) z bv = y9:=⟨_,rfl⟩
 obtain ⟨RN,hRN⟩ : ∃ y9,rtN (okB s xs && okB t us) z bv = y9:=⟨_,rfl⟩
 obtain ⟨RD,hRD⟩ : ∃ y9,rtD (okB s xs && okB t us) z bv = y9:=⟨_,rfl⟩
 rw [hRS,hRN,hRD]
 have HRS:=Hd hRS
 have HRN:=Hd hRN
 have HRD:=Hd hRD
 clear hRS hRN hRD
 have HA:=Hd hA
 have HC:=Hd hC
 clear hA hC
 go_enter Tryz.func98,Tryz.ntmps98
 have a0:=Hd ((((Below.refl w.heap.size w).alloc (Nat.le_refl _) (.cells #[.bool s,.slice A n c] 33)).alloc (by simp) (.cells #[.bool t,.slice C p q] 33)).alloc (by simp; omega) (.cells #[.bool false,.slice none 0 0,.slice none 0 0] 35))
 have bD:=Hd (((HeldL.new_at w (w.heap.size) [.bool s,.slice A n c] 33 (by first | rfl | simp)).alloc (.cells #[.bool t,.slice C p q] 33)).alloc (.cells #[.bool false,.slice none 0 0,.slice none 0 0] 35))
 have bE:=Hd ((HeldL.new_at (w.alloc (.cells #[.bool s,.slice A n c] 33)) (w.heap.size + 1) [.bool t,.slice C p q] 33 (by first | rfl | simp)).alloc (.cells #[.bool false,.slice none 0 0,.slice none 0 0] 35))
 have aN:=Hd (HeldL.new_at ((w.alloc (.cells #[.bool s,.slice A n c] 33)).alloc (.cells #[.bool t,.slice C p q] 33)) (w.heap.size + 1 + 1) [.bool false,.slice none 0 0,.slice none 0 0] 35 (by first | rfl | simp))
 have bU : w.heap.size ≠ w.heap.size + 1:=by omega
 have a9 : w.heap.size ≠ w.heap.size + 1 + 1:=by omega
 have bV : w.heap.size + 1 ≠ w.heap.size:=by omega
 have bA : w.heap.size + 1 ≠ w.heap.size + 1 + 1:=by omega
 have bB : w.heap.size + 1 + 1 ≠ w.heap.size:=by omega
 have bC : w.heap.size + 1 + 1 ≠ w.heap.size + 1:=by omega
 go_wp2_with fail
 refine (bigIntOk_impl s A n c xs _ (HA.out.below a0.out (Nat.le_refl _)).1 HA.out.max).mono ?_
 rintro e w1 ⟨rfl,hb⟩
 have bF:=Hd (bD.out.after hb)
 have aQ:=Hd (bE.out.after hb)
 have aC:=Hd (aN.out.after hb)
 have aO:=Hd (a0.out.trans (hb.mono a0.out.size))
 clear hb
 by_cases hok : okB s xs = true
 ·rw [hok]
  obtain ⟨aK,aL⟩:=aQ.out.c2
  go_wp2_with fail
  refine (bigIntOk_impl t C p q us _ (HC.out.below aO.out (Nat.le_refl _)).1 HC.out.max).mono ?_
  rintro e w2 ⟨rfl,hb⟩
  have aR:=Hd (bF.out.after hb)
  have aS:=Hd (aQ.out.after hb)
  have aA:=Hd (aC.out.after hb)
  have a2:=Hd (aO.out.trans (hb.mono aO.out.size))
  clear hb
  clear aK
  clear aL
  by_cases hok2 : okB t us = true
  ·rw [hok2]
   obtain ⟨hex,hcx,hlx⟩:=okI_nats (okB_ok hok)
   obtain ⟨hey,hcy,hly⟩:=okI_nats (okB_ok hok2)
   rw [toN_len,HA.out.ilen] at hlx
   rw [toN_len,HC.out.ilen] at hly
   have HAn:=Hd (hex ▸ HA.out)
   have HCn:=Hd (hey ▸ HC.out)
   have HCx:=Hd hcx
   have HCy:=Hd hcy
   have HOK:=Hd hok
   have HOK2:=Hd hok2
   clear hex hey hcx hcy hok hok2
   have HLS:=Hd (show loS z bv = RS by rw [← HRS.out]; exact (rtS_yes (by rw [HOK.out,HOK2.out]; rfl)).symm)
   have HLN:=Hd (show loN z bv = RN by rw [← HRN.out]; exact (rtN_yes (by rw [HOK.out,HOK2.out]; rfl)).symm)
   have HLD:=Hd (show loD z bv = RD by rw [← HRD.out]; exact (rtD_yes (by rw [HOK.out,HOK2.out]; rfl)).symm)
   have HZL:=Hd (show signed ((s != t) && decide (0 < n)) (val (toN xs)) = z by rw [← HAn.out.nlen,signed_len]; exact Hz.out)
   obtain ⟨bG,bH⟩:=aR.out.c2
   obtain ⟨bI,bJ⟩:=aS.out.c2
   obtain ⟨aH,aE,aI,aF,aJ,aG⟩:=aA.out.g3
   go_wp2
   go_region_held3 (fun w' =>w'.cell? ⟨w.heap.size,0,none⟩ = some (.bool s) ∧ w'.cell? ⟨w.heap.size,1,none⟩ = some (.slice A n c) ∧ w'.cell? ⟨w.heap.size + 1,0,none⟩ = some (.bool t) ∧ w'.cell? ⟨w.heap.size + 1,1,none⟩ = some (.slice C p q)) (go_keep)
    (first
      |(go_at_call 101
        refine (bigIntWith_any (s != t) A n c _ ?_).mono ?_
        omega
        rintro e w8 ⟨rfl,hb⟩
        have aT:=Hd (aR.out.drew.after hb)
        have aM:=Hd (aS.out.drew.after hb)
        have aD:=Hd (aA.out.drew.after hb)
        have aP:=Hd (a2.out.drew.trans (hb.mono a2.out.drew.size))
        clear hb
        obtain ⟨bK,bL⟩:=aT.out.c2
        have bM:=aM.out.cell 0 _ rfl
        have bN:=aM.out.cell 1 _ rfl)
      |(go_at_call 71
        refine (reduced_let ((s != t) && decide (0 < n)) A n c (toN xs) C p q (toN us) z bv HZL.out Hbv.out _ (HAn.out.below aP.out (Nat.le_refl _)) (HCn.out.below aP.out (Nat.le_refl _)) HCx.out HCy.out hlx hly RS RN RD HLS.out HLN.out HLD.out).mono ?_
        rintro e w9 ⟨v9n,v9d,rfl,hon,hod,apn,apd,hb⟩
        obtain ⟨A9n,c9n,rfl⟩:=hon.shape
        obtain ⟨A9d,c9d,rfl⟩:=hod.shape
        have HO9n:=Hd hon
        have HO9d:=Hd hod
        have AP_O9n_O9d:=Hd apn
        have AP_O9d_O9n:=Hd apd
        clear hon hod apn apd
        have bO:=Hd (aT.out.after hb)
        have bP:=Hd (aM.out.after hb)
        have aB:=Hd (aD.out.after hb)
        have bW:=Hd (aP.out.trans (hb.mono aP.out.size))
        clear hb
        obtain ⟨bQ,bR⟩:=bO.out.c2
        obtain ⟨bS,bT⟩:=bP.out.c2
        obtain ⟨a3,aU,a4,aV⟩:=aB.out.g2
        have a5:=aB.out.cell 2 _ rfl
        have aW:=aB.out.froz 2 _ rfl))
   go_wp2
   obtain ⟨hr0,hr1,hr2⟩:=aB.out.c3
   exact bodyPost_ret (v:=.agg #[.bool RS,.slice A9n (nats RN).length c9n,.slice A9d (nats RD).length c9d]) (by simp [results,Tryz.results98,go_sem,hr0,hr1,hr2]) rfl (ownRR_close bW.out HO9n.out HO9d.out aD.out.lt aD.out.lt (by omega) AP_O9n_O9d.out AP_O9d_O9n.out)
  ·rw [Bool.not_eq_true] at hok2
   rw [hok2]
   obtain rfl : RS = false:=by rw [← HRS.out]; exact rtS_no (by rw [hok2,Bool.and_false])
   obtain rfl : RN = []:=by rw [← HRN.out]; exact rtN_no (by rw [hok2,Bool.and_false])
   obtain rfl : RD = []:=by rw [← HRD.out]; exact rtD_no (by rw [hok2,Bool.and_false])
   obtain ⟨aH,aE,aI,aF,aJ,aG⟩:=aA.out.g3
   go_wp2
   obtain ⟨hr0,hr1,hr2⟩:=aA.out.c3
   refine bodyPost_ret (v:=.agg #[.bool false,.slice none 0 0,.slice none 0 0]) (by simp [results,Tryz.results98,go_sem,hr0,hr1,hr2]) rfl ?_
   exact ownRR_close a2.out (OwnV.nil _ (w.heap.size + 1 + 1 + 1) _) (OwnV.nil _ (w.heap.size + 1 + 1 + 1) _) (Nat.lt_succ_self _) (Nat.lt_succ_self _) (by omega) (.inl rfl) (.inl rfl)
 ·rw [Bool.not_eq_true] at hok
  rw [hok]
  obtain rfl : RS = false:=by rw [← HRS.out]; exact rtS_no (by rw [hok,Bool.false_and])
  obtain rfl : RN = []:=by rw [← HRN.out]; exact rtN_no (by rw [hok,Bool.false_and])
  obtain rfl : RD = []:=by rw [← HRD.out]; exact rtD_no (by rw [hok,Bool.false_and])
  obtain ⟨a6,aX,a7,aY,a8,aZ⟩:=aC.out.g3
  go_wp2
  obtain ⟨hr0,hr1,hr2⟩:=aC.out.c3
  refine bodyPost_ret (v:=.agg #[.bool false,.slice none 0 0,.slice none 0 0]) (by simp [results,Tryz.results98,go_sem,hr0,hr1,hr2]) rfl ?_
  exact ownRR_close aO.out (OwnV.nil _ (w.heap.size + 1 + 1 + 1) _) (OwnV.nil _ (w.heap.size + 1 + 1 + 1) _) (Nat.lt_succ_self _) (Nat.lt_succ_self _) (by omega) (.inl rfl) (.inl rfl)
theorem ratOf_impl (x y : Int) (w : World) (hx : -9223372036854775808 ≤ x ∧ x ≤ 9223372036854775807) (hy : -9223372036854775808 ≤ y ∧ y ≤ 9223372036854775807) :
 Calls Tryz.prog 70 #[.int .i64 x,.int .i64 y] w (OwnRR 3 (rtS (okB (sgZ x) ((magZ x).map fun x : Nat=>(x : Int)) && okB (sgZ y) ((magZ y).map fun x : Nat=>(x : Int))) (signed (sgZ x != sgZ y) (val (toN ((magZ x).map fun x : Nat=>(x : Int))))) (val (toN ((magZ y).map fun x : Nat=>(x : Int))))) (nats (rtN (okB (sgZ x) ((magZ x).map fun x : Nat=>(x : Int)) && okB (sgZ y) ((magZ y).map fun x : Nat=>(x : Int))) (signed (sgZ x != sgZ y) (val (toN ((magZ x).map fun x : Nat=>(x : Int))))) (val (toN ((magZ y).map fun x : Nat=>(x : Int)))))) (nats (rtD (okB (sgZ x) ((magZ x).map fun x : Nat=>(x : Int)) && okB (sgZ y) ((magZ y).map fun x : Nat=>(x : Int))) (signed (sgZ x != sgZ y) (val (toN ((magZ x).map fun x : Nat=>(x : Int))))) (val (toN ((magZ y).map fun x : Nat=>(x : Int)))))) w):=by
 obtain ⟨RS,hRS⟩ : ∃ y9,rtS (okB (sgZ x) ((magZ x).map fun x : Nat=>(x : Int)) && okB (sgZ y) ((magZ y).map fun x : Nat=>(x : Int))) (signed (sgZ x != sgZ y) (val (toN ((magZ x).map fun x : Nat=>(x : Int))))) (val (toN ((magZ y).map fun x : Nat=>(x : Int)))) = y9:=⟨_,rfl⟩
 obtain ⟨RN,hRN⟩ : ∃ y9,rtN (okB (sgZ x) ((magZ x).map fun x : Nat=>(x : Int)) && okB (sgZ y) ((magZ y).map fun x : Nat=>(x : Int))) (signed (sgZ x != sgZ y) (val (toN ((magZ x).map fun x : Nat=>(x : Int))))) (val (toN ((magZ y).map fun x : Nat=>(x : Int)))) = y9:=⟨_,rfl⟩
 obtain ⟨RD,hRD⟩ : ∃ y9,rtD (okB (sgZ x) ((magZ x).map fun x : Nat=>(x : Int)) && okB (sgZ y) ((magZ y).map fun x : Nat=>(x : Int))) (signed (sgZ x != sgZ y) (val (toN ((magZ x).map fun x : Nat=>(x : Int))))) (val (toN ((magZ y).map fun x : Nat=>(x : Int)))) = y9:=⟨_,rfl⟩
 rw [hRS,hRN,hRD]
 have HRS:=Hd hRS
 have HRN:=Hd hRN
 have HRD:=Hd hRD
 clear hRS hRN hRD
 have Hx:=Hd hx
 have Hy:=Hd hy
 clear hx hy
 obtain ⟨gx,hgx⟩ : ∃ y9,sgZ x = y9:=⟨_,rfl⟩
 obtain ⟨gy,hgy⟩ : ∃ y9,sgZ y = y9:=⟨_,rfl⟩
 obtain ⟨mx,hmx⟩ : ∃ y9,magZ x = y9:=⟨_,rfl⟩
 obtain ⟨my,hmy⟩ : ∃ y9,magZ y = y9:=⟨_,rfl⟩
 rw [hgx,hgy,hmx,hmy] at HRS HRN HRD
 have Hgx:=Hd hgx
 have Hgy:=Hd hgy
 have Hmx:=Hd hmx
 have Hmy:=Hd hmy
 clear hgx hgy hmx hmy
 go_enter Tryz.func70,Tryz.ntmps70
 have aL:=Hd ((Below.refl w.heap.size w).alloc (Nat.le_refl _) (.cells #[.bool false,.slice none 0 0,.slice none 0 0] 35))
 have aD:=Hd (HeldL.new_at w (w.heap.size) [.bool false,.slice none 0 0,.slice none 0 0] 35 (by first | rfl | simp))
 go_wp2_with fail
 have HCx:=Hd (bigIntOf_impl x (w.alloc (.cells #[.bool false,.slice none 0 0,.slice none 0 0] 35)) Hx.out)
 rw [Hgx.out,Hmx.out] at HCx
 refine (HCx.out).mono ?_
 rintro e wx ⟨vx,rfl,ho,hb⟩
 obtain ⟨Ax,cx,rfl⟩:=ho.shape
 have HOx:=Hd ho
 clear ho
 have aE:=Hd (aD.out.after hb)
 have aM:=Hd (aL.out.trans (hb.mono aL.out.size))
 clear hb
 go_wp2_with fail
 have HCy:=Hd (bigIntOf_impl y wx Hy.out)
 rw [Hgy.out,Hmy.out] at HCy
 refine (HCy.out).mono ?_
 rintro e wy ⟨vy,rfl,ho,hb⟩
 obtain ⟨Ay,cy,rfl⟩:=ho.shape
 have HOy:=Hd ho
 have AP_Ox_Oy:=Hd (OwnV.apart HOx.out ho (Nat.le_refl _))
 have AP_Oy_Ox:=Hd (OwnV.apart' ho HOx.out (Nat.le_refl _))
 clear ho
 have aB:=Hd (aE.out.after hb)
 have aA:=Hd (OwnV.below (w:=wx) HOx.out hb)
 have aN:=Hd (aM.out.trans (hb.mono aM.out.size))
 clear hb
 go_wp2_with fail
 have HCM:=Hd (ratMake_impl gx Ax (nats mx).length cx (mx.map fun x : Nat=>(x : Int)) gy Ay (nats my).length cy (my.map fun x : Nat=>(x : Int)) _ aA.out.arg HOy.out.arg)
 rw [HRS.out,HRN.out,HRD.out] at HCM
 refine (HCM.out).mono ?_
 rintro e w9 ⟨v9n,v9d,rfl,hon,hod,apn,apd,hb⟩
 obtain ⟨A9n,c9n,rfl⟩:=hon.shape
 have HO9n:=Hd hon
 have AP_Ox_O9n:=Hd (OwnV.apart aA.out hon (Nat.le_refl _))
 have AP_O9n_Ox:=Hd (OwnV.apart' hon aA.out (Nat.le_refl _))
 have AP_Oy_O9n:=Hd (OwnV.apart HOy.out hon (Nat.le_refl _))
 have AP_O9n_Oy:=Hd (OwnV.apart' hon HOy.out (Nat.le_refl _))
 obtain ⟨A9d,c9d,rfl⟩:=hod.shape
 have HO9d:=Hd hod
 have AP_Ox_O9d:=Hd (OwnV.apart aA.out hod (Nat.le_refl _))
 have AP_O9d_Ox:=Hd (OwnV.apart' hod aA.out (Nat.le_refl _))
 have AP_Oy_O9d:=Hd (OwnV.apart HOy.out hod (Nat.le_refl _))
 have AP_O9d_Oy:=Hd (OwnV.apart' hod HOy.out (Nat.le_refl _))
 have AP_O9n_O9d:=Hd apn
 have AP_O9d_O9n:=Hd apd
 clear hon hod apn apd
 have aC:=Hd (aB.out.after hb)
 have aO:=Hd (OwnV.below (w:=wy) aA.out hb)
 have aP:=Hd (OwnV.below (w:=wy) HOy.out hb)
 have aQ:=Hd (aN.out.trans (hb.mono aN.out.size))
 clear hb
 obtain ⟨aI,aF,aJ,aG,aK,aH⟩:=aC.out.g3
 go_wp2
 obtain ⟨hr0,hr1,hr2⟩:=aC.out.c3
 exact bodyPost_ret (v:=.agg #[.bool RS,.slice A9n (nats RN).length c9n,.slice A9d (nats RD).length c9d]) (by simp [results,Tryz.results70,go_sem,hr0,hr1,hr2]) rfl (ownRR_close aQ.out HO9n.out HO9d.out aB.out.lt aB.out.lt (by omega) AP_O9n_O9d.out AP_O9d_O9n.out)
theorem raisedBy_at (s : Bool) (A : Option Addr) (n c : Nat) (xs : List Int) (B : Option Addr) (m d : Nat) (ys : List Int) (E : Option Addr) (k l : Nat) (vs : List Int) (z : Int) (g : Bool) (M : List Nat) (hz : zOf s xs * (val (toN vs) : Int) = z) (hI : IsZ g M z) (h1 : okB s xs = true) (h2 : okI vs = true) (w : World) (hA : Arg w A n c (ints xs)) (hE : Arg w E k l (ints vs)) :
 Calls Tryz.prog 73 #[.agg #[.bool s,.slice A n c,.slice B m d],.slice E k l] w (OwnRB 3 g (nats M) w):=by
 have hA_max:=hA.max
 have hE_max:=hE.max
 have HC:=Hd (fun u hA hE=>bigIntMul_impl s false A E n c k l xs vs u hA hE hA_max hE_max)
 have hr:=res_yes (ok:=okB s xs && okB false vs) (z:=zOf s xs * zOf false vs) (by rw [h1,okB_false,h2]; rfl)
 rw [hr.1,hr.2,zOf_false,hz,hI.1,hI.2.1] at HC
 clear hr h1 h2 hz hI hA_max hE_max
 have HA:=Hd hA
 have HE:=Hd hE
 clear hA hE
 go_enter Tryz.func73,Tryz.ntmps73
 have aC:=Hd (((Below.refl w.heap.size w).alloc (Nat.le_refl _) (.cells #[.bool s,.slice A n c,.slice B m d] 35)).alloc (by simp) (.cells #[.bool false,.slice none 0 0] 33))
 have aJ:=Hd ((HeldL.new_at w (w.heap.size) [.bool s,.slice A n c,.slice B m d] 35 (by first | rfl | simp)).alloc (.cells #[.bool false,.slice none 0 0] 33))
 have aA:=Hd (HeldL.new_at (w.alloc (.cells #[.bool s,.slice A n c,.slice B m d] 35)) (w.heap.size + 1) [.bool false,.slice none 0 0] 33 (by first | rfl | simp))
 have aH : w.heap.size ≠ w.heap.size + 1:=by omega
 have aI : w.heap.size + 1 ≠ w.heap.size:=by omega
 go_wp2_with fail
 refine (HC.out _ (HA.out.below aC.out (Nat.le_refl _)).1 (HE.out.below aC.out (Nat.le_refl _)).1).mono ?_
 rintro e w9 ⟨v9,rfl,ho,hb⟩
 obtain ⟨A9,c9,rfl⟩:=ho.shape
 have HO9:=Hd ho
 clear ho
 have aL:=Hd (aJ.out.after hb)
 have aB:=Hd (aA.out.after hb)
 have aK:=Hd (aC.out.trans (hb.mono aC.out.size))
 clear hb
 obtain ⟨aF,aD,aG,aE⟩:=aB.out.g2
 go_wp2
 obtain ⟨hr0,hr1⟩:=aB.out.c2
 exact bodyPost_ret (v:=.agg #[.bool g,.slice A9 (nats M).length c9]) (by simp [results,Tryz.results73,go_sem,hr0,hr1]) rfl (ownRB_close aK.out HO9.out aA.out.lt (by omega))
end Go.Proofs.YtodoiekbjjiocaaGreat
namespace Go.Proofs.YtodoiekbjjiocaaGreat
open Go.RowKit Nt
set_option linter.unusedVariables false
set_option maxRecDepth 100000
set_option maxHeartbeats 4000000
theorem bigIntAdd_let (g1 g2 : Bool) (A B : Option Addr) (n c m d : Nat) (M1 M2 : List Nat) (z1 z2 z : Int) (g : Bool) (M : List Nat) (h1 : IsZ g1 M1 z1) (h2 : IsZ g2 M2 z2) (hz : z1 + z2 = z) (hI : IsZ g M z) (w : World) (hA : Arg w A n c (nats M1)) (hB : Arg w B m d (nats M2)) :
 Calls Tryz.prog 72 #[.agg #[.bool g1,.slice A n c],.agg #[.bool g2,.slice B m d]] w (OwnRB 3 g (nats M) w):=by
 have h:=bigIntAdd_impl g1 g2 A B n c m d _ _ w hA.1 hB.1 hA.max hB.max
 have hr:=res_yes (ok:=okB g1 (M1.map fun x : Nat=>(x : Int)) && okB g2 (M2.map fun x : Nat=>(x : Int))) (z:=zOf g1 (M1.map fun x : Nat=>(x : Int)) + zOf g2 (M2.map fun x : Nat=>(x : Int))) (by rw [h1.ok,h2.ok]; rfl)
 rw [hr.1,hr.2,h1.z,h2.z,hz,hI.1,hI.2.1] at h
 exact h
theorem bigIntSub_let (g1 g2 : Bool) (A B : Option Addr) (n c m d : Nat) (M1 M2 : List Nat) (z1 z2 z : Int) (g : Bool) (M : List Nat) (h1 : IsZ g1 M1 z1) (h2 : IsZ g2 M2 z2) (hz : z1 - z2 = z) (hI : IsZ g M z) (w : World) (hA : Arg w A n c (nats M1)) (hB : Arg w B m d (nats M2)) :
 Calls Tryz.prog 114 #[.agg #[.bool g1,.slice A n c],.agg #[.bool g2,.slice B m d]] w (OwnRB 3 g (nats M) w):=by
 have h:=bigIntSub_impl g1 g2 A B n c m d _ _ w hA.1 hB.1 hA.max hB.max
 have hr:=res_yes (ok:=okB g1 (M1.map fun x : Nat=>(x : Int)) && okB g2 (M2.map fun x : Nat=>(x : Int))) (z:=zOf g1 (M1.map fun x : Nat=>(x : Int)) - zOf g2 (M2.map fun x : Nat=>(x : Int))) (by rw [h1.ok,h2.ok]; rfl)
 rw [hr.1,hr.2,h1.z,h2.z,hz,hI.1,hI.2.1] at h
 exact h
theorem bigIntMul_let (s t : Bool) (A B : Option Addr) (n c m d : Nat) (xs us : List Int) (z : Int) (g : Bool) (M : List Nat) (h1 : okB s xs = true) (h2 : okB t us = true) (hz : zOf s xs * zOf t us = z) (hI : IsZ g M z) (w : World) (hA : Arg w A n c (ints xs)) (hB : Arg w B m d (ints us)) :
 Calls Tryz.prog 104 #[.agg #[.bool s,.slice A n c],.agg #[.bool t,.slice B m d]] w (OwnRB 3 g (nats M) w):=by
 have h:=bigIntMul_impl s t A B n c m d _ _ w hA.1 hB.1 hA.max hB.max
 have hr:=res_yes (ok:=okB s xs && okB t us) (z:=zOf s xs * zOf t us) (by rw [h1,h2]; rfl)
 rw [hr.1,hr.2,hz,hI.1,hI.2.1] at h
 exact h
theorem natMul_let (A B : Option Addr) (n c m d : Nat) (xs ys : List Int) (h1 : okI xs = true) (h2 : okI ys = true) (hl : val (toN xs) * val (toN ys) < 1000000000 ^ 60) (w : World) (hA : Arg w A n c (ints xs)) (hB : Arg w B m d (ints ys)) :
 Calls Tryz.prog 74 #[.slice A n c,.slice B m d] w (OwnR 3 (nats (dig (val (toN xs) * val (toN ys)))) w):=by
 have h:=natMul_impl A B n c m d xs ys w hA.1 hB.1 hA.max hB.max
 rw [mulN_yes h1 h2,capd_of hl] at h
 exact h
theorem plusR_at (s : Bool) (A : Option Addr) (n c : Nat) (xs : List Int) (B : Option Addr) (m d : Nat) (ys : List Int) (t : Bool) (C : Option Addr) (p q : Nat) (us : List Int) (E : Option Addr) (k l : Nat) (vs : List Int) (z : Int) (bv : Nat) (hz : zOf s xs * (val (toN vs) : Int) + zOf t us * (val (toN ys) : Int) = z) (hbv : val (toN ys) * val (toN vs) = bv) (hok : Semi s xs ys) (hok2 : Semi t us vs) (w : World) (hA : Arg w A n c (ints xs)) (hB : Arg w B m d (ints ys)) (hC : Arg w C p q (ints us)) (hE : Arg w E k l (ints vs)) :
 Calls Tryz.prog 43 #[.agg #[.bool s,.slice A n c,.slice B m d],.agg #[.bool t,.slice C p q,.slice E k l]] w (OwnRR 3 (loS z bv) (nats (loN z bv)) (nats (loD z bv)) w):=by
 obtain ⟨RS,hRS⟩ : ∃ y9,loS z bv = y9:=⟨_,rfl⟩
 obtain ⟨RN,hRN⟩ : ∃ y9,loN z bv = y9:=⟨_,rfl⟩
 obtain ⟨RD,hRD⟩ : ∃ y9,loD z bv = y9:=⟨_,rfl⟩
 rw [hRS,hRN,hRD]
 have HLS:=Hd hRS
 have HLN:=Hd hRN
 have HLD:=Hd hRD
 clear hRS hRN hRD
 obtain ⟨hp1,hp2,hp3,hp4,hp5,hp6⟩:=Semi.parts hok
 obtain ⟨hq1,hq2,hq3,hq4,hq5,hq6⟩:=Semi.parts hok2
 obtain ⟨hvx,hvy,hval⟩:=Semi.nats hok
 obtain ⟨hwx,hwy,hval2⟩:=Semi.nats hok2
 have HZS:=Hd (show z.natAbs < 1000000000 ^ 60 by rw [← hz]; exact add_small0 hval hval2)
 obtain ⟨g8,M8,hI8⟩ : ∃ g M,IsZ g M z:=⟨_,_,IsZ.of HZS.out⟩
 have HI8:=Hd hI8
 clear hI8
 obtain ⟨z1,hz1⟩ : ∃ y9,zOf s xs * (val (toN vs) : Int) = y9:=⟨_,rfl⟩
 obtain ⟨z2,hz2⟩ : ∃ y9,zOf t us * (val (toN ys) : Int) = y9:=⟨_,rfl⟩
 rw [hz1,hz2] at hz
 obtain ⟨g1,M1,hI1⟩ : ∃ g M,IsZ g M z1:=⟨_,_,IsZ.of (by rw [← hz1]; exact one_small hval.1 hval.2.2.1 hval2.2.1 hval2.2.2.2.1)⟩
 obtain ⟨g2,M2,hI2⟩ : ∃ g M,IsZ g M z2:=⟨_,_,IsZ.of (by rw [← hz2]; exact one_small hval2.1 hval2.2.2.1 hval.2.1 hval.2.2.2.1)⟩
 have HV:=Hd hval
 have HV2:=Hd hval2
 clear hval hval2 hvx hvy hwx hwy hok hok2 hp3 hp4 hp5 hp6 hq3 hq4 hq5 hq6
 have HBM:=Hd (pow_up (mul_small HV.out.2.1 HV.out.2.2.2.1 HV2.out.2.1 HV2.out.2.2.2.1) (by decide : 48 ≤ 60))
 have HBL:=Hd (mul_len HV.out.2.1 HV.out.2.2.2.1 HV2.out.2.1 HV2.out.2.2.2.1)
 have HA:=Hd hA
 have HB:=Hd hB
 have HC:=Hd hC
 have HE:=Hd hE
 have Hbv:=Hd hbv
 have Hp1:=Hd hp1
 have Hp2:=Hd hp2
 have Hq1:=Hd hq1
 have Hq2:=Hd hq2
 clear hA hB hC hE hbv hp1 hp2 hq1 hq2
 have HI1:=Hd hI1
 have HI2:=Hd hI2
 have Hz1:=Hd hz1
 have Hz2:=Hd hz2
 have Hz:=Hd hz
 clear hI1 hI2 hz1 hz2 hz
 go_enter Tryz.func43,Tryz.ntmps43
 have aI:=Hd ((((Below.refl w.heap.size w).alloc (Nat.le_refl _) (.cells #[.bool s,.slice A n c,.slice B m d] 35)).alloc (by simp) (.cells #[.bool t,.slice C p q,.slice E k l] 35)).alloc (by simp; omega) (.cells #[.bool false,.slice none 0 0,.slice none 0 0] 35))
 have a8:=Hd (((HeldL.new_at w (w.heap.size) [.bool s,.slice A n c,.slice B m d] 35 (by first | rfl | simp)).alloc (.cells #[.bool t,.slice C p q,.slice E k l] 35)).alloc (.cells #[.bool false,.slice none 0 0,.slice none 0 0] 35))
 have a9:=Hd ((HeldL.new_at (w.alloc (.cells #[.bool s,.slice A n c,.slice B m d] 35)) (w.heap.size + 1) [.bool t,.slice C p q,.slice E k l] 35 (by first | rfl | simp)).alloc (.cells #[.bool false,.slice none 0 0,.slice none 0 0] 35))
 have aJ:=Hd (HeldL.new_at ((w.alloc (.cells #[.bool s,.slice A n c,.slice B m d] 35)).alloc (.cells #[.bool t,.slice C p q,.slice E k l] 35)) (w.heap.size + 1 + 1) [.bool false,.slice none 0 0,.slice none 0 0] 35 (by first | rfl | simp))
 have b8 : w.heap.size ≠ w.heap.size + 1:=by omega
 have a4 : w.heap.size ≠ w.heap.size + 1 + 1:=by omega
 have b9 : w.heap.size + 1 ≠ w.heap.size:=by omega
 have a5 : w.heap.size + 1 ≠ w.heap.size + 1 + 1:=by omega
 have a6 : w.heap.size + 1 + 1 ≠ w.heap.size:=by omega
 have a7 : w.heap.size + 1 + 1 ≠ w.heap.size + 1:=by omega
 go_wp2
 go_region_held3 (fun w' =>w'.cell? ⟨w.heap.size,0,none⟩ = some (.bool s) ∧ w'.cell? ⟨w.heap.size,1,none⟩ = some (.slice A n c) ∧ w'.cell? ⟨w.heap.size,2,none⟩ = some (.slice B m d) ∧ w'.cell? ⟨w.heap.size + 1,0,none⟩ = some (.bool t) ∧ w'.cell? ⟨w.heap.size + 1,1,none⟩ = some (.slice C p q) ∧ w'.cell? ⟨w.heap.size + 1,2,none⟩ = some (.slice E k l)) (go_keep)
  (first
    |(go_at_call_of 73 (Value.agg #[Value.bool s,Value.slice A n c,Value.slice B m d])
      refine (raisedBy_at s A n c xs B m d ys E k l vs z1 g1 M1 Hz1.out HI1.out Hp1.out Hq2.out _ (HA.out.below aI.out.drew (Nat.le_refl _)) (HE.out.below aI.out.drew (Nat.le_refl _))).mono ?_
      rintro e wr1 ⟨v1,rfl,ho,hb⟩
      obtain ⟨A1,c1,rfl⟩:=ho.shape
      have HO1:=Hd ho
      clear ho
      have aP:=Hd (a8.out.drew.after hb)
      have aC:=Hd (a9.out.drew.after hb)
      have aK:=Hd (aJ.out.drew.after hb)
      have aL:=Hd (aI.out.drew.trans (hb.mono aI.out.drew.size))
      clear hb
      obtain ⟨bA,bB,bC⟩:=aP.out.c3
      obtain ⟨bD,bE⟩:=aC.out.c2
      have bF:=aC.out.cell 2 _ rfl)
    |(go_at_call_of 73 (Value.agg #[Value.bool t,Value.slice C p q,Value.slice E k l])
      refine (raisedBy_at t C p q us E k l vs B m d ys z2 g2 M2 Hz2.out HI2.out Hq1.out Hp2.out _ (HC.out.below aL.out (Nat.le_refl _)) (HB.out.below aL.out (Nat.le_refl _))).mono ?_
      rintro e wr2 ⟨v2,rfl,ho,hb⟩
      obtain ⟨A2,c2,rfl⟩:=ho.shape
      have HO2:=Hd ho
      clear ho
      have aQ:=Hd (aP.out.after hb)
      have aD:=Hd (aC.out.after hb)
      have aM:=Hd (aK.out.after hb)
      have aE:=Hd (OwnV.below (w:=wr1) HO1.out hb)
      have bG:=Hd (aL.out.trans (hb.mono aL.out.size))
      clear hb
      obtain ⟨bH,bI,bJ⟩:=aQ.out.c3
      obtain ⟨bK,bL⟩:=aD.out.c2
      have bM:=aD.out.cell 2 _ rfl)
    |(go_at_call 72
      refine (bigIntAdd_let g1 g2 A1 A2 _ c1 _ c2 M1 M2 z1 z2 z g8 M8 HI1.out HI2.out Hz.out HI8.out _ aE.out.arg HO2.out.arg).mono ?_
      rintro e ws ⟨v8,rfl,ho,hb⟩
      obtain ⟨A8,c8,rfl⟩:=ho.shape
      have HO8:=Hd ho
      clear ho
      have aR:=Hd (aQ.out.after hb)
      have aF:=Hd (aD.out.after hb)
      have aN:=Hd (aM.out.after hb)
      have aW:=Hd (OwnV.below (w:=wr2) aE.out hb)
      have aX:=Hd (OwnV.below (w:=wr2) HO2.out hb)
      have aO:=Hd (bG.out.trans (hb.mono bG.out.size))
      clear hb
      obtain ⟨bN,bO,bP⟩:=aR.out.c3
      obtain ⟨bQ,bR⟩:=aF.out.c2
      have bS:=aF.out.cell 2 _ rfl)
    |(go_at_call 74
      refine (natMul_let B E m d k l ys vs Hp2.out Hq2.out HBM.out _ (HB.out.below aO.out (Nat.le_refl _)) (HE.out.below aO.out (Nat.le_refl _))).mono ?_
      rintro e wn ⟨vd,rfl,ho,hb⟩
      obtain ⟨Ad,cd,rfl⟩:=ho.shape
      have HOd:=Hd ho
      clear ho
      have aS:=Hd (aR.out.after hb)
      have aG:=Hd (aF.out.after hb)
      have aB:=Hd (aN.out.after hb)
      have aY:=Hd (OwnV.below (w:=ws) aW.out hb)
      have aZ:=Hd (OwnV.below (w:=ws) aX.out hb)
      have aH:=Hd (OwnV.below (w:=ws) HO8.out hb)
      have bT:=Hd (aO.out.trans (hb.mono aO.out.size))
      clear hb
      obtain ⟨bU,bV,bW⟩:=aS.out.c3
      obtain ⟨bX,bY⟩:=aG.out.c2
      have bZ:=aG.out.cell 2 _ rfl)
    |(go_at_call 71
      refine (reduced_let g8 A8 (nats M8).length c8 M8 Ad _ cd (dig (val (toN ys) * val (toN vs))) z bv HI8.out.back ?_ _ aH.out.arg HOd.out.arg HI8.out.can (dig_can _) ?_ ?_ RS RN RD HLS.out HLN.out HLD.out).mono ?_
      rw [val_dig]; exact Hbv.out
      rw [nats_len]; exact HI8.out.len
      rw [nats_len]; exact HBL.out
      rintro e w9 ⟨v9n,v9d,rfl,hon,hod,apn,apd,hb⟩
      obtain ⟨A9n,c9n,rfl⟩:=hon.shape
      obtain ⟨A9d,c9d,rfl⟩:=hod.shape
      have HO9n:=Hd hon
      have HO9d:=Hd hod
      have AP_O9n_O9d:=Hd apn
      have AP_O9d_O9n:=Hd apd
      clear hon hod apn apd
      have b0:=Hd (aS.out.after hb)
      have b1:=Hd (aG.out.after hb)
      have aA:=Hd (aB.out.after hb)
      have cA:=Hd (OwnV.below (w:=wn) aY.out hb)
      have cB:=Hd (OwnV.below (w:=wn) aZ.out hb)
      have cC:=Hd (OwnV.below (w:=wn) aH.out hb)
      have cD:=Hd (OwnV.below (w:=wn) HOd.out hb)
      have cE:=Hd (bT.out.trans (hb.mono bT.out.size))
      clear hb
      obtain ⟨b2,b3,b4⟩:=b0.out.c3
      obtain ⟨b5,b6,b7⟩:=b1.out.c3
      obtain ⟨a0,aT,a2,aU⟩:=aA.out.g2
      have a3:=aA.out.cell 2 _ rfl
      have aV:=aA.out.froz 2 _ rfl))
 go_wp2
 obtain ⟨hr0,hr1,hr2⟩:=aA.out.c3
 exact bodyPost_ret (v:=.agg #[.bool RS,.slice A9n (nats RN).length c9n,.slice A9d (nats RD).length c9d]) (by simp [results,Tryz.results43,go_sem,hr0,hr1,hr2]) rfl (ownRR_close cE.out HO9n.out HO9d.out aB.out.lt aB.out.lt (by omega) AP_O9n_O9d.out AP_O9d_O9n.out)
theorem minusR_at (s : Bool) (A : Option Addr) (n c : Nat) (xs : List Int) (B : Option Addr) (m d : Nat) (ys : List Int) (t : Bool) (C : Option Addr) (p q : Nat) (us : List Int) (E : Option Addr) (k l : Nat) (vs : List Int) (z : Int) (bv : Nat) (hz : zOf s xs * (val (toN vs) : Int) - zOf t us * (val (toN ys) : Int) = z) (hbv : val (toN ys) * val (toN vs) = bv) (hok : Semi s xs ys) (hok2 : Semi t us vs) (w : World) (hA : Arg w A n c (ints xs)) (hB : Arg w B m d (ints ys)) (hC : Arg w C p q (ints us)) (hE : Arg w E k l (ints vs)) :
 Calls Tryz.prog 93 #[.agg #[.bool s,.slice A n c,.slice B m d],.agg #[.bool t,.slice C p q,.slice E k l]] w (OwnRR 3 (loS z bv) (nats (loN z bv)) (nats (loD z bv)) w):=by
 obtain ⟨RS,hRS⟩ : ∃ y9,loS z bv = y9:=⟨_,rfl⟩
 obtain ⟨RN,hRN⟩ : ∃ y9,loN z bv = y9:=⟨_,rfl⟩
 obtain ⟨RD,hRD⟩ : ∃ y9,loD z bv = y9:=⟨_,rfl⟩
 rw [hRS,hRN,hRD]
 have HLS:=Hd hRS
 have HLN:=Hd hRN
 have HLD:=Hd hRD
 clear hRS hRN hRD
 obtain ⟨hp1,hp2,hp3,hp4,hp5,hp6⟩:=Semi.parts hok
 obtain ⟨hq1,hq2,hq3,hq4,hq5,hq6⟩:=Semi.parts hok2
 obtain ⟨hvx,hvy,hval⟩:=Semi.nats hok
 obtain ⟨hwx,hwy,hval2⟩:=Semi.nats hok2
 have HZS:=Hd (show z.natAbs < 1000000000 ^ 60 by rw [← hz]; exact sub_small0 hval hval2)
 obtain ⟨g8,M8,hI8⟩ : ∃ g M,IsZ g M z:=⟨_,_,IsZ.of HZS.out⟩
 have HI8:=Hd hI8
 clear hI8
 obtain ⟨z1,hz1⟩ : ∃ y9,zOf s xs * (val (toN vs) : Int) = y9:=⟨_,rfl⟩
 obtain ⟨z2,hz2⟩ : ∃ y9,zOf t us * (val (toN ys) : Int) = y9:=⟨_,rfl⟩
 rw [hz1,hz2] at hz
 obtain ⟨g1,M1,hI1⟩ : ∃ g M,IsZ g M z1:=⟨_,_,IsZ.of (by rw [← hz1]; exact one_small hval.1 hval.2.2.1 hval2.2.1 hval2.2.2.2.1)⟩
 obtain ⟨g2,M2,hI2⟩ : ∃ g M,IsZ g M z2:=⟨_,_,IsZ.of (by rw [← hz2]; exact one_small hval2.1 hval2.2.2.1 hval.2.1 hval.2.2.2.1)⟩
 have HV:=Hd hval
 have HV2:=Hd hval2
 clear hval hval2 hvx hvy hwx hwy hok hok2 hp3 hp4 hp5 hp6 hq3 hq4 hq5 hq6
 have HBM:=Hd (pow_up (mul_small HV.out.2.1 HV.out.2.2.2.1 HV2.out.2.1 HV2.out.2.2.2.1) (by decide : 48 ≤ 60))
 have HBL:=Hd (mul_len HV.out.2.1 HV.out.2.2.2.1 HV2.out.2.1 HV2.out.2.2.2.1)
 have HA:=Hd hA
 have HB:=Hd hB
 have HC:=Hd hC
 have HE:=Hd hE
 have Hbv:=Hd hbv
 have Hp1:=Hd hp1
 have Hp2:=Hd hp2
 have Hq1:=Hd hq1
 have Hq2:=Hd hq2
 clear hA hB hC hE hbv hp1 hp2 hq1 hq2
 have HI1:=Hd hI1
 have HI2:=Hd hI2
 have Hz1:=Hd hz1
 have Hz2:=Hd hz2
 have Hz:=Hd hz
 clear hI1 hI2 hz1 hz2 hz
 go_enter Tryz.func93,Tryz.ntmps93
 have aI:=Hd ((((Below.refl w.heap.size w).alloc (Nat.le_refl _) (.cells #[.bool s,.slice A n c,.slice B m d] 35)).alloc (by simp) (.cells #[.bool t,.slice C p q,.slice E k l] 35)).alloc (by simp; omega) (.cells #[.bool false,.slice none 0 0,.slice none 0 0] 35))
 have a8:=Hd (((HeldL.new_at w (w.heap.size) [.bool s,.slice A n c,.slice B m d] 35 (by first | rfl | simp)).alloc (.cells #[.bool t,.slice C p q,.slice E k l] 35)).alloc (.cells #[.bool false,.slice none 0 0,.slice none 0 0] 35))
 have a9:=Hd ((HeldL.new_at (w.alloc (.cells #[.bool s,.slice A n c,.slice B m d] 35)) (w.heap.size + 1) [.bool t,.slice C p q,.slice E k l] 35 (by first | rfl | simp)).alloc (.cells #[.bool false,.slice none 0 0,.slice none 0 0] 35))
 have aJ:=Hd (HeldL.new_at ((w.alloc (.cells #[.bool s,.slice A n c,.slice B m d] 35)).alloc (.cells #[.bool t,.slice C p q,.slice E k l] 35)) (w.heap.size + 1 + 1) [.bool false,.slice none 0 0,.slice none 0 0] 35 (by first | rfl | simp))
 have b8 : w.heap.size ≠ w.heap.size + 1:=by omega
 have a4 : w.heap.size ≠ w.heap.size + 1 + 1:=by omega
 have b9 : w.heap.size + 1 ≠ w.heap.size:=by omega
 have a5 : w.heap.size + 1 ≠ w.heap.size + 1 + 1:=by omega
 have a6 : w.heap.size + 1 + 1 ≠ w.heap.size:=by omega
 have a7 : w.heap.size + 1 + 1 ≠ w.heap.size + 1:=by omega
 go_wp2
 go_region_held3 (fun w' =>w'.cell? ⟨w.heap.size,0,none⟩ = some (.bool s) ∧ w'.cell? ⟨w.heap.size,1,none⟩ = some (.slice A n c) ∧ w'.cell? ⟨w.heap.size,2,none⟩ = some (.slice B m d) ∧ w'.cell? ⟨w.heap.size + 1,0,none⟩ = some (.bool t) ∧ w'.cell? ⟨w.heap.size + 1,1,none⟩ = some (.slice C p q) ∧ w'.cell? ⟨w.heap.size + 1,2,none⟩ = some (.slice E k l)) (go_keep)
  (first
    |(go_at_call_of 73 (Value.agg #[Value.bool s,Value.slice A n c,Value.slice B m d])
      refine (raisedBy_at s A n c xs B m d ys E k l vs z1 g1 M1 Hz1.out HI1.out Hp1.out Hq2.out _ (HA.out.below aI.out.drew (Nat.le_refl _)) (HE.out.below aI.out.drew (Nat.le_refl _))).mono ?_
      rintro e wr1 ⟨v1,rfl,ho,hb⟩
      obtain ⟨A1,c1,rfl⟩:=ho.shape
      have HO1:=Hd ho
      clear ho
      have aP:=Hd (a8.out.drew.after hb)
      have aC:=Hd (a9.out.drew.after hb)
      have aK:=Hd (aJ.out.drew.after hb)
      have aL:=Hd (aI.out.drew.trans (hb.mono aI.out.drew.size))
      clear hb
      obtain ⟨bA,bB,bC⟩:=aP.out.c3
      obtain ⟨bD,bE⟩:=aC.out.c2
      have bF:=aC.out.cell 2 _ rfl)
    |(go_at_call_of 73 (Value.agg #[Value.bool t,Value.slice C p q,Value.slice E k l])
      refine (raisedBy_at t C p q us E k l vs B m d ys z2 g2 M2 Hz2.out HI2.out Hq1.out Hp2.out _ (HC.out.below aL.out (Nat.le_refl _)) (HB.out.below aL.out (Nat.le_refl _))).mono ?_
      rintro e wr2 ⟨v2,rfl,ho,hb⟩
      obtain ⟨A2,c2,rfl⟩:=ho.shape
      have HO2:=Hd ho
      clear ho
      have aQ:=Hd (aP.out.after hb)
      have aD:=Hd (aC.out.after hb)
      have aM:=Hd (aK.out.after hb)
      have aE:=Hd (OwnV.below (w:=wr1) HO1.out hb)
      have bG:=Hd (aL.out.trans (hb.mono aL.out.size))
      clear hb
      obtain ⟨bH,bI,bJ⟩:=aQ.out.c3
      obtain ⟨bK,bL⟩:=aD.out.c2
      have bM:=aD.out.cell 2 _ rfl)
    |(go_at_call 114
      refine (bigIntSub_let g1 g2 A1 A2 _ c1 _ c2 M1 M2 z1 z2 z g8 M8 HI1.out HI2.out Hz.out HI8.out _ aE.out.arg HO2.out.arg).mono ?_
      rintro e ws ⟨v8,rfl,ho,hb⟩
      obtain ⟨A8,c8,rfl⟩:=ho.shape
      have HO8:=Hd ho
      clear ho
      have aR:=Hd (aQ.out.after hb)
      have aF:=Hd (aD.out.after hb)
      have aN:=Hd (aM.out.after hb)
      have aW:=Hd (OwnV.below (w:=wr2) aE.out hb)
      have aX:=Hd (OwnV.below (w:=wr2) HO2.out hb)
      have aO:=Hd (bG.out.trans (hb.mono bG.out.size))
      clear hb
      obtain ⟨bN,bO,bP⟩:=aR.out.c3
      obtain ⟨bQ,bR⟩:=aF.out.c2
      have bS:=aF.out.cell 2 _ rfl)
    |(go_at_call 74
      refine (natMul_let B E m d k l ys vs Hp2.out Hq2.out HBM.out _ (HB.out.below aO.out (Nat.le_refl _)) (HE.out.below aO.out (Nat.le_refl _))).mono ?_
      rintro e wn ⟨vd,rfl,ho,hb⟩
      obtain ⟨Ad,cd,rfl⟩:=ho.shape
      have HOd:=Hd ho
      clear ho
      have aS:=Hd (aR.out.after hb)
      have aG:=Hd (aF.out.after hb)
      have aB:=Hd (aN.out.after hb)
      have aY:=Hd (OwnV.below (w:=ws) aW.out hb)
      have aZ:=Hd (OwnV.below (w:=ws) aX.out hb)
      have aH:=Hd (OwnV.below (w:=ws) HO8.out hb)
      have bT:=Hd (aO.out.trans (hb.mono aO.out.size))
      clear hb
      obtain ⟨bU,bV,bW⟩:=aS.out.c3
      obtain ⟨bX,bY⟩:=aG.out.c2
      have bZ:=aG.out.cell 2 _ rfl)
    |(go_at_call 71
      refine (reduced_let g8 A8 (nats M8).length c8 M8 Ad _ cd (dig (val (toN ys) * val (toN vs))) z bv HI8.out.back ?_ _ aH.out.arg HOd.out.arg HI8.out.can (dig_can _) ?_ ?_ RS RN RD HLS.out HLN.out HLD.out).mono ?_
      rw [val_dig]; exact Hbv.out
      rw [nats_len]; exact HI8.out.len
      rw [nats_len]; exact HBL.out
      rintro e w9 ⟨v9n,v9d,rfl,hon,hod,apn,apd,hb⟩
      obtain ⟨A9n,c9n,rfl⟩:=hon.shape
      obtain ⟨A9d,c9d,rfl⟩:=hod.shape
      have HO9n:=Hd hon
      have HO9d:=Hd hod
      have AP_O9n_O9d:=Hd apn
      have AP_O9d_O9n:=Hd apd
      clear hon hod apn apd
      have b0:=Hd (aS.out.after hb)
      have b1:=Hd (aG.out.after hb)
      have aA:=Hd (aB.out.after hb)
      have cA:=Hd (OwnV.below (w:=wn) aY.out hb)
      have cB:=Hd (OwnV.below (w:=wn) aZ.out hb)
      have cC:=Hd (OwnV.below (w:=wn) aH.out hb)
      have cD:=Hd (OwnV.below (w:=wn) HOd.out hb)
      have cE:=Hd (bT.out.trans (hb.mono bT.out.size))
      clear hb
      obtain ⟨b2,b3,b4⟩:=b0.out.c3
      obtain ⟨b5,b6,b7⟩:=b1.out.c3
      obtain ⟨a0,aT,a2,aU⟩:=aA.out.g2
      have a3:=aA.out.cell 2 _ rfl
      have aV:=aA.out.froz 2 _ rfl))
 go_wp2
 obtain ⟨hr0,hr1,hr2⟩:=aA.out.c3
 exact bodyPost_ret (v:=.agg #[.bool RS,.slice A9n (nats RN).length c9n,.slice A9d (nats RD).length c9d]) (by simp [results,Tryz.results93,go_sem,hr0,hr1,hr2]) rfl (ownRR_close cE.out HO9n.out HO9d.out aB.out.lt aB.out.lt (by omega) AP_O9n_O9d.out AP_O9d_O9n.out)
theorem mulz_small {s t : Bool} {ds bs es gs : List Nat} (hv : Half ds bs) (hv2 : Half es gs) : (signed s (val ds) * signed t (val es)).natAbs < 1000000000 ^ 60:=by
 rw [Int.natAbs_mul,signed_abs,signed_abs]
 exact pow_up (mul_small hv.1 hv.2.2.1 hv2.1 hv2.2.2.1) (by decide)
theorem timesR_at (s : Bool) (A : Option Addr) (n c : Nat) (xs : List Int) (B : Option Addr) (m d : Nat) (ys : List Int) (t : Bool) (C : Option Addr) (p q : Nat) (us : List Int) (E : Option Addr) (k l : Nat) (vs : List Int) (z : Int) (bv : Nat) (hz : zOf s xs * zOf t us = z) (hbv : val (toN ys) * val (toN vs) = bv) (hok : Semi s xs ys) (hok2 : Semi t us vs) (w : World) (hA : Arg w A n c (ints xs)) (hB : Arg w B m d (ints ys)) (hC : Arg w C p q (ints us)) (hE : Arg w E k l (ints vs)) :
 Calls Tryz.prog 90 #[.agg #[.bool s,.slice A n c,.slice B m d],.agg #[.bool t,.slice C p q,.slice E k l]] w (OwnRR 3 (loS z bv) (nats (loN z bv)) (nats (loD z bv)) w):=by
 obtain ⟨RS,hRS⟩ : ∃ y9,loS z bv = y9:=⟨_,rfl⟩
 obtain ⟨RN,hRN⟩ : ∃ y9,loN z bv = y9:=⟨_,rfl⟩
 obtain ⟨RD,hRD⟩ : ∃ y9,loD z bv = y9:=⟨_,rfl⟩
 rw [hRS,hRN,hRD]
 have HLS:=Hd hRS
 have HLN:=Hd hRN
 have HLD:=Hd hRD
 clear hRS hRN hRD
 obtain ⟨hp1,hp2,hp3,hp4,hp5,hp6⟩:=Semi.parts hok
 obtain ⟨hq1,hq2,hq3,hq4,hq5,hq6⟩:=Semi.parts hok2
 obtain ⟨hvx,hvy,hval⟩:=Semi.nats hok
 obtain ⟨hwx,hwy,hval2⟩:=Semi.nats hok2
 have HZS:=Hd (show z.natAbs < 1000000000 ^ 60 by rw [← hz]; exact mulz_small hval hval2)
 obtain ⟨g8,M8,hI8⟩ : ∃ g M,IsZ g M z:=⟨_,_,IsZ.of HZS.out⟩
 have HI8:=Hd hI8
 clear hI8
 have HV:=Hd hval
 have HV2:=Hd hval2
 clear hval hval2 hvx hvy hwx hwy hok hok2 hp3 hp4 hp5 hp6 hq3 hq4 hq5 hq6
 have HBM:=Hd (pow_up (mul_small HV.out.2.1 HV.out.2.2.2.1 HV2.out.2.1 HV2.out.2.2.2.1) (by decide : 48 ≤ 60))
 have HBL:=Hd (mul_len HV.out.2.1 HV.out.2.2.2.1 HV2.out.2.1 HV2.out.2.2.2.1)
 have HA:=Hd hA
 have HB:=Hd hB
 have HC:=Hd hC
 have HE:=Hd hE
 have Hbv:=Hd hbv
 have Hp1:=Hd hp1
 have Hp2:=Hd hp2
 have Hq1:=Hd hq1
 have Hq2:=Hd hq2
 clear hA hB hC hE hbv hp1 hp2 hq1 hq2
 have Hz:=Hd hz
 clear hz
 go_enter Tryz.func90,Tryz.ntmps90
 have aF:=Hd ((((Below.refl w.heap.size w).alloc (Nat.le_refl _) (.cells #[.bool s,.slice A n c,.slice B m d] 35)).alloc (by simp) (.cells #[.bool t,.slice C p q,.slice E k l] 35)).alloc (by simp; omega) (.cells #[.bool false,.slice none 0 0,.slice none 0 0] 35))
 have aV:=Hd (((HeldL.new_at w (w.heap.size) [.bool s,.slice A n c,.slice B m d] 35 (by first | rfl | simp)).alloc (.cells #[.bool t,.slice C p q,.slice E k l] 35)).alloc (.cells #[.bool false,.slice none 0 0,.slice none 0 0] 35))
 have aW:=Hd ((HeldL.new_at (w.alloc (.cells #[.bool s,.slice A n c,.slice B m d] 35)) (w.heap.size + 1) [.bool t,.slice C p q,.slice E k l] 35 (by first | rfl | simp)).alloc (.cells #[.bool false,.slice none 0 0,.slice none 0 0] 35))
 have aG:=Hd (HeldL.new_at ((w.alloc (.cells #[.bool s,.slice A n c,.slice B m d] 35)).alloc (.cells #[.bool t,.slice C p q,.slice E k l] 35)) (w.heap.size + 1 + 1) [.bool false,.slice none 0 0,.slice none 0 0] 35 (by first | rfl | simp))
 have bJ : w.heap.size ≠ w.heap.size + 1:=by omega
 have aR : w.heap.size ≠ w.heap.size + 1 + 1:=by omega
 have bK : w.heap.size + 1 ≠ w.heap.size:=by omega
 have aS : w.heap.size + 1 ≠ w.heap.size + 1 + 1:=by omega
 have aT : w.heap.size + 1 + 1 ≠ w.heap.size:=by omega
 have aU : w.heap.size + 1 + 1 ≠ w.heap.size + 1:=by omega
 go_wp2
 go_region_held3 (fun w' =>w'.cell? ⟨w.heap.size,0,none⟩ = some (.bool s) ∧ w'.cell? ⟨w.heap.size,1,none⟩ = some (.slice A n c) ∧ w'.cell? ⟨w.heap.size,2,none⟩ = some (.slice B m d) ∧ w'.cell? ⟨w.heap.size + 1,0,none⟩ = some (.bool t) ∧ w'.cell? ⟨w.heap.size + 1,1,none⟩ = some (.slice C p q) ∧ w'.cell? ⟨w.heap.size + 1,2,none⟩ = some (.slice E k l)) (go_keep)
  (first
    |(go_at_call 104
      refine (bigIntMul_let s t A C n c p q xs us z g8 M8 Hp1.out Hq1.out Hz.out HI8.out _ (HA.out.below aF.out.drew (Nat.le_refl _)) (HC.out.below aF.out.drew (Nat.le_refl _))).mono ?_
      rintro e ws ⟨v8,rfl,ho,hb⟩
      obtain ⟨A8,c8,rfl⟩:=ho.shape
      have HO8:=Hd ho
      clear ho
      have aJ:=Hd (aV.out.drew.after hb)
      have aC:=Hd (aW.out.drew.after hb)
      have aH:=Hd (aG.out.drew.after hb)
      have aI:=Hd (aF.out.drew.trans (hb.mono aF.out.drew.size))
      clear hb
      obtain ⟨aX,aY,aZ⟩:=aJ.out.c3
      obtain ⟨a0,a2⟩:=aC.out.c2
      have a3:=aC.out.cell 2 _ rfl)
    |(go_at_call 74
      refine (natMul_let B E m d k l ys vs Hp2.out Hq2.out HBM.out _ (HB.out.below aI.out (Nat.le_refl _)) (HE.out.below aI.out (Nat.le_refl _))).mono ?_
      rintro e wn ⟨vd,rfl,ho,hb⟩
      obtain ⟨Ad,cd,rfl⟩:=ho.shape
      have HOd:=Hd ho
      clear ho
      have aK:=Hd (aJ.out.after hb)
      have aD:=Hd (aC.out.after hb)
      have aB:=Hd (aH.out.after hb)
      have aE:=Hd (OwnV.below (w:=ws) HO8.out hb)
      have a4:=Hd (aI.out.trans (hb.mono aI.out.size))
      clear hb
      obtain ⟨a5,a6,a7⟩:=aK.out.c3
      obtain ⟨a8,a9⟩:=aD.out.c2
      have bA:=aD.out.cell 2 _ rfl)
    |(go_at_call 71
      refine (reduced_let g8 A8 (nats M8).length c8 M8 Ad _ cd (dig (val (toN ys) * val (toN vs))) z bv HI8.out.back ?_ _ aE.out.arg HOd.out.arg HI8.out.can (dig_can _) ?_ ?_ RS RN RD HLS.out HLN.out HLD.out).mono ?_
      rw [val_dig]; exact Hbv.out
      rw [nats_len]; exact HI8.out.len
      rw [nats_len]; exact HBL.out
      rintro e w9 ⟨v9n,v9d,rfl,hon,hod,apn,apd,hb⟩
      obtain ⟨A9n,c9n,rfl⟩:=hon.shape
      obtain ⟨A9d,c9d,rfl⟩:=hod.shape
      have HO9n:=Hd hon
      have HO9d:=Hd hod
      have AP_O9n_O9d:=Hd apn
      have AP_O9d_O9n:=Hd apd
      clear hon hod apn apd
      have bB:=Hd (aK.out.after hb)
      have bC:=Hd (aD.out.after hb)
      have aA:=Hd (aB.out.after hb)
      have bL:=Hd (OwnV.below (w:=wn) aE.out hb)
      have bM:=Hd (OwnV.below (w:=wn) HOd.out hb)
      have bN:=Hd (a4.out.trans (hb.mono a4.out.size))
      clear hb
      obtain ⟨bD,bE,bF⟩:=bB.out.c3
      obtain ⟨bG,bH,bI⟩:=bC.out.c3
      obtain ⟨aO,aL,aP,aM⟩:=aA.out.g2
      have aQ:=aA.out.cell 2 _ rfl
      have aN:=aA.out.froz 2 _ rfl))
 go_wp2
 obtain ⟨hr0,hr1,hr2⟩:=aA.out.c3
 exact bodyPost_ret (v:=.agg #[.bool RS,.slice A9n (nats RN).length c9n,.slice A9d (nats RD).length c9d]) (by simp [results,Tryz.results90,go_sem,hr0,hr1,hr2]) rfl (ownRR_close bN.out HO9n.out HO9d.out aB.out.lt aB.out.lt (by omega) AP_O9n_O9d.out AP_O9d_O9n.out)
theorem div_same {s t : Bool} {a e b c : Nat} (ha : (signed s a * (e : Int)).natAbs < 1000000000 ^ 60) (hb : (signed t b * (c : Int)).natAbs < 1000000000 ^ 60) :
 (b * c = c * b) ∧ (c * b ≠ 0 → signed (sgZ (signed s a * (e : Int)) != sgZ (signed t b * (c : Int))) (a * e) = signed (s != t) (a * e)):=by
 refine ⟨Nat.mul_comm _ _,fun h=>?_⟩
 have hb0 : 0 < b * c:=by rw [Nat.mul_comm]; omega
 rcases Nat.eq_zero_or_pos (a * e) with h0 | h0
 ·rw [h0]
  cases s <;> cases t <;> simp [signed]
 ·rw [sgZ_small ha,sgZ_small hb,← signed_z,← signed_z]
  have e1 : decide (signed s (a * e) < 0) = s:=by cases s <;> simp [signed] <;> omega
  have e2 : decide (signed t (b * c) < 0) = t:=by cases t <;> simp [signed] <;> omega
  rw [e1,e2]
theorem lo_same {z z' : Int} {b : Nat} (h : b ≠ 0 → z = z') : loS z b = loS z' b ∧ loN z b = loN z' b ∧ loD z b = loD z' b:=by
 by_cases h0 : b = 0
 ·subst h0
  simp [loS,loN,loD,okL_no_zero]
 ·rw [h h0]; exact ⟨rfl,rfl,rfl⟩
theorem dividedByR_at (s : Bool) (A : Option Addr) (n c : Nat) (xs : List Int) (B : Option Addr) (m d : Nat) (ys : List Int) (t : Bool) (C : Option Addr) (p q : Nat) (us : List Int) (E : Option Addr) (k l : Nat) (vs : List Int) (z : Int) (bv : Nat) (hz : signed (s != t) (val (toN xs) * val (toN vs)) = z) (hbv : val (toN ys) * val (toN us) = bv) (hok : Semi s xs ys) (hok2 : Semi t us vs) (w : World) (hA : Arg w A n c (ints xs)) (hB : Arg w B m d (ints ys)) (hC : Arg w C p q (ints us)) (hE : Arg w E k l (ints vs)) :
 Calls Tryz.prog 91 #[.agg #[.bool s,.slice A n c,.slice B m d],.agg #[.bool t,.slice C p q,.slice E k l]] w (OwnRR 3 (loS z bv) (nats (loN z bv)) (nats (loD z bv)) w):=by
 obtain ⟨RS,hRS⟩ : ∃ y9,loS z bv = y9:=⟨_,rfl⟩
 obtain ⟨RN,hRN⟩ : ∃ y9,loN z bv = y9:=⟨_,rfl⟩
 obtain ⟨RD,hRD⟩ : ∃ y9,loD z bv = y9:=⟨_,rfl⟩
 rw [hRS,hRN,hRD]
 have HLS:=Hd hRS
 have HLN:=Hd hRN
 have HLD:=Hd hRD
 clear hRS hRN hRD
 obtain ⟨hp1,hp2,hp3,hp4,hp5,hp6⟩:=Semi.parts hok
 obtain ⟨hq1,hq2,hq3,hq4,hq5,hq6⟩:=Semi.parts hok2
 obtain ⟨hvx,hvy,hval⟩:=Semi.nats hok
 obtain ⟨hwx,hwy,hval2⟩:=Semi.nats hok2
 have HZT:=Hd hz
 obtain ⟨z1,hz1⟩ : ∃ y9,zOf s xs * (val (toN vs) : Int) = y9:=⟨_,rfl⟩
 obtain ⟨z2,hz2⟩ : ∃ y9,zOf t us * (val (toN ys) : Int) = y9:=⟨_,rfl⟩
 obtain ⟨g1,M1,hI1⟩ : ∃ g M,IsZ g M z1:=⟨_,_,IsZ.of (by rw [← hz1]; exact one_small hval.1 hval.2.2.1 hval2.2.1 hval2.2.2.2.1)⟩
 obtain ⟨g2,M2,hI2⟩ : ∃ g M,IsZ g M z2:=⟨_,_,IsZ.of (by rw [← hz2]; exact one_small hval2.1 hval2.2.2.1 hval.2.1 hval.2.2.2.1)⟩
 have hds:=div_same (s:=s) (t:=t) (a:=val (toN xs)) (e:=val (toN vs)) (b:=val (toN us)) (c:=val (toN ys)) (one_small hval.1 hval.2.2.1 hval2.2.1 hval2.2.2.2.1) (one_small hval2.1 hval2.2.2.1 hval.2.1 hval.2.2.2.1)
 have e1 : sgZ (signed s (val (toN xs)) * (val (toN vs) : Int)) = g1:=by rw [show signed s (val (toN xs)) * (val (toN vs) : Int) = z1 from hz1]; exact hI1.1
 have e2 : sgZ (signed t (val (toN us)) * (val (toN ys) : Int)) = g2:=by rw [show signed t (val (toN us)) * (val (toN ys) : Int) = z2 from hz2]; exact hI2.1
 have v1 : val M1 = val (toN xs) * val (toN vs):=by have h:=hI1.back; rw [← hz1] at h; have h2:=congrArg Int.natAbs h; rw [signed_abs,zOf,abs_mul] at h2; exact h2
 have v2 : val M2 = bv:=by have h:=hI2.back; rw [← hz2] at h; have h2:=congrArg Int.natAbs h; rw [signed_abs,zOf,abs_mul] at h2; rw [h2,hds.1]; exact hbv
 rw [e1,e2,← v1,hbv] at hds
 have hlo:=lo_same (z:=signed (g1 != g2) (val M1)) (z':=z) (b:=bv) (fun h=>(hds.2 h).trans (by rw [v1]; exact hz))
 have hoks : (okB g1 (M1.map fun x : Nat=>(x : Int)) && okB g2 (M2.map fun x : Nat=>(x : Int))) = true:=by rw [hI1.ok,hI2.ok]; rfl
 have bO:=Hd (show ∀ (A1 : Option Addr) (c1 : Nat) (A2 : Option Addr) (c2 : Nat) (u : World),Arg u A1 (nats M1).length c1 (nats M1) → Arg u A2 (nats M2).length c2 (nats M2) → Calls Tryz.prog 98 #[.agg #[.bool g1,.slice A1 (nats M1).length c1],.agg #[.bool g2,.slice A2 (nats M2).length c2]] u (OwnRR 3 RS (nats RN) (nats RD) u) by
  intro A1 c1 A2 c2 u hA hB
  have h:=ratMake_impl g1 A1 (nats M1).length c1 (M1.map fun x : Nat=>(x : Int)) g2 A2 (nats M2).length c2 (M2.map fun x : Nat=>(x : Int)) u hA hB
  rw [rtS_yes hoks,rtN_yes hoks,rtD_yes hoks,toN_nats,toN_nats,v2,hlo.1,hlo.2.1,hlo.2.2,HLS.out,HLN.out,HLD.out] at h
  exact h)
 clear hds e1 e2 v1 v2 hlo hoks hz
 have HV:=Hd hval
 have HV2:=Hd hval2
 clear hval hval2 hvx hvy hwx hwy hok hok2 hp3 hp4 hp5 hp6 hq3 hq4 hq5 hq6
 have HA:=Hd hA
 have HB:=Hd hB
 have HC:=Hd hC
 have HE:=Hd hE
 have Hbv:=Hd hbv
 have Hp1:=Hd hp1
 have Hp2:=Hd hp2
 have Hq1:=Hd hq1
 have Hq2:=Hd hq2
 clear hA hB hC hE hbv hp1 hp2 hq1 hq2
 have HI1:=Hd hI1
 have HI2:=Hd hI2
 have Hz1:=Hd hz1
 have Hz2:=Hd hz2
 clear hI1 hI2 hz1 hz2
 go_enter Tryz.func91,Tryz.ntmps91
 have aF:=Hd ((((Below.refl w.heap.size w).alloc (Nat.le_refl _) (.cells #[.bool s,.slice A n c,.slice B m d] 35)).alloc (by simp) (.cells #[.bool t,.slice C p q,.slice E k l] 35)).alloc (by simp; omega) (.cells #[.bool false,.slice none 0 0,.slice none 0 0] 35))
 have aV:=Hd (((HeldL.new_at w (w.heap.size) [.bool s,.slice A n c,.slice B m d] 35 (by first | rfl | simp)).alloc (.cells #[.bool t,.slice C p q,.slice E k l] 35)).alloc (.cells #[.bool false,.slice none 0 0,.slice none 0 0] 35))
 have aW:=Hd ((HeldL.new_at (w.alloc (.cells #[.bool s,.slice A n c,.slice B m d] 35)) (w.heap.size + 1) [.bool t,.slice C p q,.slice E k l] 35 (by first | rfl | simp)).alloc (.cells #[.bool false,.slice none 0 0,.slice none 0 0] 35))
 have aG:=Hd (HeldL.new_at ((w.alloc (.cells #[.bool s,.slice A n c,.slice B m d] 35)).alloc (.cells #[.bool t,.slice C p q,.slice E k l] 35)) (w.heap.size + 1 + 1) [.bool false,.slice none 0 0,.slice none 0 0] 35 (by first | rfl | simp))
 have bJ : w.heap.size ≠ w.heap.size + 1:=by omega
 have aR : w.heap.size ≠ w.heap.size + 1 + 1:=by omega
 have bK : w.heap.size + 1 ≠ w.heap.size:=by omega
 have aS : w.heap.size + 1 ≠ w.heap.size + 1 + 1:=by omega
 have aT : w.heap.size + 1 + 1 ≠ w.heap.size:=by omega
 have aU : w.heap.size + 1 + 1 ≠ w.heap.size + 1:=by omega
 go_wp2
 go_region_held3 (fun w' =>w'.cell? ⟨w.heap.size,0,none⟩ = some (.bool s) ∧ w'.cell? ⟨w.heap.size,1,none⟩ = some (.slice A n c) ∧ w'.cell? ⟨w.heap.size,2,none⟩ = some (.slice B m d) ∧ w'.cell? ⟨w.heap.size + 1,0,none⟩ = some (.bool t) ∧ w'.cell? ⟨w.heap.size + 1,1,none⟩ = some (.slice C p q) ∧ w'.cell? ⟨w.heap.size + 1,2,none⟩ = some (.slice E k l)) (go_keep)
  (first
    |(go_at_call_of 73 (Value.agg #[Value.bool s,Value.slice A n c,Value.slice B m d])
      refine (raisedBy_at s A n c xs B m d ys E k l vs z1 g1 M1 Hz1.out HI1.out Hp1.out Hq2.out _ (HA.out.below aF.out.drew (Nat.le_refl _)) (HE.out.below aF.out.drew (Nat.le_refl _))).mono ?_
      rintro e wr1 ⟨v1,rfl,ho,hb⟩
      obtain ⟨A1,c1,rfl⟩:=ho.shape
      have HO1:=Hd ho
      clear ho
      have aJ:=Hd (aV.out.drew.after hb)
      have aC:=Hd (aW.out.drew.after hb)
      have aH:=Hd (aG.out.drew.after hb)
      have aI:=Hd (aF.out.drew.trans (hb.mono aF.out.drew.size))
      clear hb
      obtain ⟨aX,aY,aZ⟩:=aJ.out.c3
      obtain ⟨a0,a2⟩:=aC.out.c2
      have a3:=aC.out.cell 2 _ rfl)
    |(go_at_call_of 73 (Value.agg #[Value.bool t,Value.slice C p q,Value.slice E k l])
      refine (raisedBy_at t C p q us E k l vs B m d ys z2 g2 M2 Hz2.out HI2.out Hq1.out Hp2.out _ (HC.out.below aI.out (Nat.le_refl _)) (HB.out.below aI.out (Nat.le_refl _))).mono ?_
      rintro e wr2 ⟨v2,rfl,ho,hb⟩
      obtain ⟨A2,c2,rfl⟩:=ho.shape
      have HO2:=Hd ho
      clear ho
      have aK:=Hd (aJ.out.after hb)
      have aD:=Hd (aC.out.after hb)
      have aB:=Hd (aH.out.after hb)
      have aE:=Hd (OwnV.below (w:=wr1) HO1.out hb)
      have a4:=Hd (aI.out.trans (hb.mono aI.out.size))
      clear hb
      obtain ⟨a5,a6,a7⟩:=aK.out.c3
      obtain ⟨a8,a9⟩:=aD.out.c2
      have bA:=aD.out.cell 2 _ rfl)
    |(go_at_call 98
      refine (bO.out A1 c1 A2 c2 _ aE.out.arg HO2.out.arg).mono ?_
      rintro e w9 ⟨v9n,v9d,rfl,hon,hod,apn,apd,hb⟩
      obtain ⟨A9n,c9n,rfl⟩:=hon.shape
      obtain ⟨A9d,c9d,rfl⟩:=hod.shape
      have HO9n:=Hd hon
      have HO9d:=Hd hod
      have AP_O9n_O9d:=Hd apn
      have AP_O9d_O9n:=Hd apd
      clear hon hod apn apd
      have bB:=Hd (aK.out.after hb)
      have bC:=Hd (aD.out.after hb)
      have aA:=Hd (aB.out.after hb)
      have bL:=Hd (OwnV.below (w:=wr2) aE.out hb)
      have bM:=Hd (OwnV.below (w:=wr2) HO2.out hb)
      have bN:=Hd (a4.out.trans (hb.mono a4.out.size))
      clear hb
      obtain ⟨bD,bE,bF⟩:=bB.out.c3
      obtain ⟨bG,bH,bI⟩:=bC.out.c3
      obtain ⟨aO,aL,aP,aM⟩:=aA.out.g2
      have aQ:=aA.out.cell 2 _ rfl
      have aN:=aA.out.froz 2 _ rfl))
 go_wp2
 obtain ⟨hr0,hr1,hr2⟩:=aA.out.c3
 exact bodyPost_ret (v:=.agg #[.bool RS,.slice A9n (nats RN).length c9n,.slice A9d (nats RD).length c9d]) (by simp [results,Tryz.results91,go_sem,hr0,hr1,hr2]) rfl (ownRR_close bN.out HO9n.out HO9d.out aB.out.lt aB.out.lt (by omega) AP_O9n_O9d.out AP_O9d_O9n.out)
end Go.Proofs.YtodoiekbjjiocaaGreat
namespace Go.Proofs.YtodoiekbjjiocaaGreat
open Go.RowKit Nt
set_option linter.unusedVariables false
set_option maxRecDepth 100000
set_option maxHeartbeats 4000000
theorem cmpB_zero {s : Bool} {xs : List Int} (h : okB s xs = true) : cmpB s false xs [] = cmpZ (zOf s xs) 0:=by
 rw [cmpB_yes h (by decide)]
 have h1 : IsZ s (toN xs) (zOf s xs):=by
  obtain ⟨_,hc,_⟩:=okI_nats (okB_ok h)
  have hb:=okB_abs h
  refine ⟨?_,?_,hb⟩
  ·rw [zOf,sgZ_signed,capd_ok h,toN_len]
   cases s
   ·rfl
   ·simp [okB_len h]
  ·rw [zOf,magZ_signed,capd_ok h]
 have h2 : val (toN []) = 0:=rfl
 have h3:=cmp_small (a:=zOf s xs) (b:=0) h1.2.2 (by simp)
 have e1 : sgZ 0 = false:=by rw [sgZ_small (by simp)]; rfl
 have e2 : magZ 0 = []:=by rw [magZ_small (by simp)]; exact dig_zero
 rw [h1.1,h1.2.1,e1,e2] at h3
 exact h3
theorem signR_at (s : Bool) (A : Option Addr) (n c : Nat) (xs : List Int) (B : Option Addr) (m d : Nat) (ys : List Int) (Q : Int) (hQ : cmpZ (zOf s xs) 0 = Q) (hok : okR s xs ys = true) (w : World) (hA : Arg w A n c (ints xs)) (hB : Arg w B m d (ints ys)) :
 Calls Tryz.prog 86 #[.agg #[.bool s,.slice A n c,.slice B m d]] w fun e w' =>e = .returned (.int .i64 Q) ∧ Below w.heap.size w w':=by
 have HCQ:=Hd ((cmpB_zero (okR_parts hok).1).trans hQ)
 clear hQ hok
 have HA:=Hd hA
 have HB:=Hd hB
 clear hA hB
 go_enter Tryz.func86,Tryz.ntmps86
 have aA:=Hd ((Below.refl w.heap.size w).alloc (Nat.le_refl _) (.cells #[.bool s,.slice A n c,.slice B m d] 35))
 have aB:=Hd (HeldL.new_at w (w.heap.size) [.bool s,.slice A n c,.slice B m d] 35 (by first | rfl | simp))
 go_wp2_with fail
 refine (bigIntCmp_impl s false A none n c 0 0 xs [] _ (HA.out.below aA.out (Nat.le_refl _)).1 (VRow.empty _ _) HA.out.max (Nat.zero_le _)).mono ?_
 rintro e w9 ⟨rfl,hb⟩
 rw [HCQ.out]
 have aD:=Hd (aB.out.after hb)
 have aC:=Hd (aA.out.trans (hb.mono aA.out.size))
 clear hb
 go_wp2
 go_ret
 exact ⟨rfl,aC.out⟩
theorem ratSign_impl (s : Bool) (A : Option Addr) (n c : Nat) (xs : List Int) (B : Option Addr) (m d : Nat) (ys : List Int) (w : World) (hA : Arg w A n c (ints xs)) (hB : Arg w B m d (ints ys)) :
 Calls Tryz.prog 59 #[.agg #[.bool s,.slice A n c,.slice B m d]] w fun e w' =>e = .returned (.int .i64 (sgnR s xs ys)) ∧ Below w.heap.size w w':=by
 obtain ⟨Q,hQ⟩ : ∃ y9,sgnR s xs ys = y9:=⟨_,rfl⟩
 rw [hQ]
 have HQ:=Hd hQ
 have HA:=Hd hA
 have HB:=Hd hB
 clear hQ hA hB
 go_enter Tryz.func59,Tryz.ntmps59
 have aE:=Hd ((Below.refl w.heap.size w).alloc (Nat.le_refl _) (.cells #[.bool s,.slice A n c,.slice B m d] 35))
 have aG:=Hd (HeldL.new_at w (w.heap.size) [.bool s,.slice A n c,.slice B m d] 35 (by first | rfl | simp))
 go_wp2_with fail
 refine (isValidR_any s A n c xs B m d ys _ (HA.out.below aE.out (Nat.le_refl _)) (HB.out.below aE.out (Nat.le_refl _))).mono ?_
 rintro e w1 ⟨rfl,hb⟩
 have aF:=Hd (aG.out.after hb)
 have aA:=Hd (aE.out.trans (hb.mono aE.out.size))
 clear hb
 by_cases hok : okR s xs ys = true
 ·rw [hok]
  have HOK:=Hd hok
  clear hok
  have HCQ:=Hd (show cmpZ (zOf s xs) 0 = Q by rw [← HQ.out]; unfold sgnR; rw [if_pos HOK.out])
  obtain ⟨aB,aC,aD⟩:=aF.out.c3
  go_wp2_with fail
  refine (signR_at s A n c xs B m d ys Q HCQ.out HOK.out _ (HA.out.below aA.out (Nat.le_refl _)) (HB.out.below aA.out (Nat.le_refl _))).mono ?_
  rintro e w9 ⟨rfl,hb⟩
  have aI:=Hd (aF.out.after hb)
  have aH:=Hd (aA.out.trans (hb.mono aA.out.size))
  clear hb
  clear aB
  clear aC
  clear aD
  go_wp2
  go_ret
  exact ⟨rfl,aH.out⟩
 ·rw [Bool.not_eq_true] at hok
  rw [hok]
  obtain rfl : Q = 0:=by rw [← HQ.out]; exact sgnR_no hok
  clear hok
  go_wp2
  go_ret
  exact ⟨rfl,aA.out⟩
theorem int_rat {x : Int} (hx : -9223372036854775808 ≤ x ∧ x ≤ 9223372036854775807) : rtS (okB (sgZ x) ((magZ x).map fun x : Nat=>(x : Int)) && okB (sgZ 1) ((magZ 1).map fun x : Nat=>(x : Int))) (signed (sgZ x != sgZ 1) (val (toN ((magZ x).map fun x : Nat=>(x : Int))))) (val (toN ((magZ 1).map fun x : Nat=>(x : Int)))) = sgZ x ∧ rtN (okB (sgZ x) ((magZ x).map fun x : Nat=>(x : Int)) && okB (sgZ 1) ((magZ 1).map fun x : Nat=>(x : Int))) (signed (sgZ x != sgZ 1) (val (toN ((magZ x).map fun x : Nat=>(x : Int))))) (val (toN ((magZ 1).map fun x : Nat=>(x : Int)))) = magZ x ∧ rtD (okB (sgZ x) ((magZ x).map fun x : Nat=>(x : Int)) && okB (sgZ 1) ((magZ 1).map fun x : Nat=>(x : Int))) (signed (sgZ x != sgZ 1) (val (toN ((magZ x).map fun x : Nat=>(x : Int))))) (val (toN ((magZ 1).map fun x : Nat=>(x : Int)))) = [1]:=by
 have hs:=int_small hx
 have h1:=IsZ.of hs
 have h2 : IsZ (sgZ 1) (magZ 1) 1:=IsZ.of (int_small (by decide))
 have hok : (okB (sgZ x) ((magZ x).map fun x : Nat=>(x : Int)) && okB (sgZ 1) ((magZ 1).map fun x : Nat=>(x : Int))) = true:=by rw [h1.ok,h2.ok]; rfl
 rw [rtS_yes hok,rtN_yes hok,rtD_yes hok,toN_nats,toN_nats]
 have e1 : sgZ 1 = false:=by rw [sgZ_small (int_small (by decide))]; rfl
 have e2 : magZ 1 = [1]:=by rw [magZ_small (int_small (by decide))]; exact dig_one
 have e3 : val [1] = 1:=rfl
 have e4 : (sgZ x != false) = sgZ x:=by cases sgZ x <;> rfl
 have e5 : val (magZ x) = x.natAbs:=by rw [magZ_small hs,val_dig]
 have hg : Nat.gcd x.natAbs 1 = 1:=Nat.gcd_one_right _
 have hl : (dig x.natAbs).length ≤ 24:=dig_len (Nat.lt_of_le_of_lt (show x.natAbs ≤ 9223372036854775808 by omega) (by decide))
 have hL : okL x.natAbs 1 = true:=okL_bound (by decide) hl (by rw [dig_one]; decide)
 have hz : signed (sgZ x) x.natAbs = x:=by have:=h1.back; rw [e5] at this; exact this
 rw [e1,e2,e3,e4,e5]
 obtain ⟨q1,q2,q3⟩:=low_some hz hL
 rw [hg,Nat.div_one] at q1 q2
 rw [hg,Nat.div_one,dig_one] at q3
 rw [hz,q1,q2,q3]
 refine ⟨?_,?_,rfl⟩
 ·rw [sgZ_small hs]
  by_cases hn : x < 0
  ·have : 0 < (dig x.natAbs).length:=dig_pos_len (by omega)
   simp [hn,this]
  ·simp [hn]
 ·rw [magZ_small hs]
theorem ratFromInt_impl (x : Int) (w : World) (hx : -9223372036854775808 ≤ x ∧ x ≤ 9223372036854775807) :
 Calls Tryz.prog 42 #[.int .i64 x] w (OwnRR 3 (sgZ x) (nats (magZ x)) (nats ([1])) w):=by
 have HC:=Hd (fun u=>ratOf_impl x 1 u hx (by decide))
 obtain ⟨h1,h2,h3⟩:=int_rat hx
 rw [h1,h2,h3] at HC
 clear h1 h2 h3 hx
 obtain ⟨gx,hgx⟩ : ∃ y9,sgZ x = y9:=⟨_,rfl⟩
 obtain ⟨mx,hmx⟩ : ∃ y9,magZ x = y9:=⟨_,rfl⟩
 rw [hgx,hmx] at HC ⊢
 clear hgx hmx
 go_enter Tryz.func42,Tryz.ntmps42
 have aI:=Hd ((Below.refl w.heap.size w).alloc (Nat.le_refl _) (.cells #[.bool false,.slice none 0 0,.slice none 0 0] 35))
 have aA:=Hd (HeldL.new_at w (w.heap.size) [.bool false,.slice none 0 0,.slice none 0 0] 35 (by first | rfl | simp))
 go_wp2_with fail
 refine (HC.out _).mono ?_
 rintro e w9 ⟨v9n,v9d,rfl,hon,hod,apn,apd,hb⟩
 obtain ⟨A9n,c9n,rfl⟩:=hon.shape
 have HO9n:=Hd hon
 obtain ⟨A9d,c9d,rfl⟩:=hod.shape
 have HO9d:=Hd hod
 have AP_O9n_O9d:=Hd apn
 have AP_O9d_O9n:=Hd apd
 clear hon hod apn apd
 have aB:=Hd (aA.out.after hb)
 have aJ:=Hd (aI.out.trans (hb.mono aI.out.size))
 clear hb
 obtain ⟨aF,aC,aG,aD,aH,aE⟩:=aB.out.g3
 go_wp2
 obtain ⟨hr0,hr1,hr2⟩:=aB.out.c3
 exact bodyPost_ret (v:=.agg #[.bool gx,.slice A9n (nats mx).length c9n,.slice A9d (nats [1]).length c9d]) (by simp [results,Tryz.results42,go_sem,hr0,hr1,hr2]) rfl (ownRR_close aJ.out HO9n.out HO9d.out aA.out.lt aA.out.lt (by omega) AP_O9n_O9d.out AP_O9d_O9n.out)
end Go.Proofs.YtodoiekbjjiocaaGreat
namespace Go.Proofs.YtodoiekbjjiocaaGreat
open Go.RowKit Nt
set_option linter.unusedVariables false
set_option maxRecDepth 100000
set_option maxHeartbeats 4000000
theorem copiedR_at (s : Bool) (A : Option Addr) (n c : Nat) (xs : List Int) (B : Option Addr) (m d : Nat) (ys : List Int) (RS : Bool) (RN RD : List Nat) (hS : s = RS) (hN : toN xs = RN) (hD : toN ys = RD) (hok : okR s xs ys = true) (w : World) (hA : Arg w A n c (ints xs)) (hB : Arg w B m d (ints ys)) :
 Calls Tryz.prog 89 #[.agg #[.bool s,.slice A n c,.slice B m d]] w (OwnRR 3 RS (nats RN) (nats RD) w):=by
 obtain ⟨hex,hey,hval⟩:=okR_nats hok
 have HAn:=Hd (hN ▸ hex ▸ hA)
 have HBn:=Hd (hD ▸ hey ▸ hB)
 have hm : m ≤ 24:=by have:=HBn.out.nlen; have:=hval.2.2.2.1; rw [hD] at this; omega
 have hn : n ≤ 24:=by have:=HAn.out.nlen; have:=hval.2.2.1; rw [hN] at this; omega
 have HSG:=Hd (show (s && decide (0 < n)) = RS by
  rw [← hS,← hA.ilen]
  cases s
  ·rfl
  ·simp [okB_len (okR_parts hok).1])
 clear hex hey hval hS hN hD hok
 have HA:=Hd hA
 have HB:=Hd hB
 clear hA hB
 go_enter Tryz.func89,Tryz.ntmps89
 have aH:=Hd (((Below.refl w.heap.size w).alloc (Nat.le_refl _) (.cells #[.bool s,.slice A n c,.slice B m d] 35)).alloc (by simp) (.cells #[.bool false,.slice none 0 0,.slice none 0 0] 35))
 have aE:=Hd ((HeldL.new_at w (w.heap.size) [.bool s,.slice A n c,.slice B m d] 35 (by first | rfl | simp)).alloc (.cells #[.bool false,.slice none 0 0,.slice none 0 0] 35))
 have aA:=Hd (HeldL.new_at (w.alloc (.cells #[.bool s,.slice A n c,.slice B m d] 35)) (w.heap.size + 1) [.bool false,.slice none 0 0,.slice none 0 0] 35 (by first | rfl | simp))
 have aX : w.heap.size ≠ w.heap.size + 1:=by omega
 have aY : w.heap.size + 1 ≠ w.heap.size:=by omega
 go_upto_region 1 with fail
 obtain ⟨w0,hw0⟩ : ∃ u,((w.alloc (.cells #[.bool s,.slice A n c,.slice B m d] 35)).alloc (.cells #[.bool false,.slice none 0 0,.slice none 0 0] 35)) = u:=⟨_,rfl⟩
 rw [hw0] at aE aA aH ⊢
 clear hw0
 obtain ⟨aZ,a0,a2⟩:=aE.out.c3
 obtain ⟨aP,aJ,aQ,aK,aR,aL⟩:=aA.out.g3
 go_wp2
 go_region_held3 (fun w' =>w'.cell? ⟨w.heap.size,0,none⟩ = some (.bool s) ∧ w'.cell? ⟨w.heap.size,1,none⟩ = some (.slice A n c) ∧ w'.cell? ⟨w.heap.size,2,none⟩ = some (.slice B m d)) (go_keep)
  (first
    |(go_at_call_of 108 (Value.slice A n c)
      refine (rowOf_any A n c n _ rfl RN _ (HAn.out.below aH.out.drew (Nat.le_refl _)).1 ?_ ?_).mono ?_
      omega
      omega
      rintro e w1 ⟨rfl,hwh,hb⟩
      rw [Nat.sub_self,List.replicate_zero,List.append_nil] at hwh
      have ho:=OwnV.of_whole_n hwh (show (nats RN).length = n by rw [nats_len]; exact HAn.out.nlen)
      have HO1:=Hd ho
      clear ho hwh
      have aF:=Hd (aE.out.drew.after hb)
      have aI:=Hd (aA.out.drew.after hb)
      have a3:=Hd (aH.out.drew.trans (hb.mono aH.out.drew.size))
      clear hb
      obtain ⟨a4,a5⟩:=aF.out.c2
      have a6:=aF.out.cell 2 _ rfl)
    |(go_at_call 101
      refine (bigIntWith_any s (some ⟨w0.heap.size,0,none⟩) n n _ ?_).mono ?_
      omega
      rintro e w2 ⟨rfl,hb⟩
      rw [HSG.out]
      have aG:=Hd (aF.out.after hb)
      have aD:=Hd (aI.out.after hb)
      have aC:=Hd (OwnV.below (w:=w1) HO1.out hb)
      have aS:=Hd (a3.out.trans (hb.mono a3.out.size))
      clear hb
      obtain ⟨a7,a8⟩:=aG.out.c2
      have a9:=aG.out.cell 2 _ rfl)
    |(go_at_call_of 108 (Value.slice B m d)
      refine (rowOf_any B m d m _ rfl RD _ (HBn.out.below aS.out (Nat.le_refl _)).1 ?_ ?_).mono ?_
      omega
      omega
      rintro e w3 ⟨rfl,hwh,hb⟩
      rw [Nat.sub_self,List.replicate_zero,List.append_nil] at hwh
      have ho:=OwnV.of_whole_n hwh (show (nats RD).length = m by rw [nats_len]; exact HBn.out.nlen)
      have AP_O1_O2:=Hd (OwnV.apart aC.out ho (Nat.le_refl _))
      have AP_O2_O1:=Hd (OwnV.apart' ho aC.out (Nat.le_refl _))
      have HO2:=Hd ho
      clear ho hwh
      have bA:=Hd (aG.out.after hb)
      have aB:=Hd (aD.out.after hb)
      have aT:=Hd (OwnV.below (w:=w2) aC.out hb)
      have bE:=Hd (aS.out.trans (hb.mono aS.out.size))
      clear hb
      obtain ⟨bB,bC,bD⟩:=bA.out.c3
      obtain ⟨aU,aM,aV,aN⟩:=aB.out.g2
      have aW:=aB.out.cell 2 _ rfl
      have aO:=aB.out.froz 2 _ rfl))
 go_wp2
 obtain ⟨hr0,hr1,hr2⟩:=aB.out.c3
 exact bodyPost_ret (v:=.agg #[.bool RS,.slice (some ⟨w0.heap.size,0,none⟩) n n,.slice (some ⟨w2.heap.size,0,none⟩) m m]) (by simp [results,Tryz.results89,go_sem,hr0,hr1,hr2]) rfl (ownRR_close bE.out aT.out HO2.out aA.out.lt aD.out.lt (by omega) AP_O1_O2.out AP_O2_O1.out)
theorem l04Copy_at (s : Bool) (A : Option Addr) (n c : Nat) (xs : List Int) (B : Option Addr) (m d : Nat) (ys : List Int) (RS : Bool) (RN RD : List Nat) (hS : s = RS) (hN : toN xs = RN) (hD : toN ys = RD) (hok : okR s xs ys = true) (w : World) (hA : Arg w A n c (ints xs)) (hB : Arg w B m d (ints ys)) :
 Calls Tryz.prog 53 #[.agg #[.bool s,.slice A n c,.slice B m d]] w (OwnRR 3 RS (nats RN) (nats RD) w):=by
 obtain ⟨i0,hi,hz0,hz1,hz2⟩:=info_parts info_int
 obtain ⟨hex,hey,hval⟩:=okR_nats hok
 have HAn:=Hd (hN ▸ hex ▸ hA)
 have HBn:=Hd (hD ▸ hey ▸ hB)
 have hmm : m = RD.length:=HBn.out.nlen.symm
 have hnn : n = RN.length:=HAn.out.nlen.symm
 have hm0 : 0 < m:=by have:=hval.2.2.2.2; rw [hD] at this; omega
 have hm1 : m ≤ 24:=by have:=hval.2.2.2.1; rw [hD] at this; omega
 have hn1 : n ≤ 24:=by have:=hval.2.2.1; rw [hN] at this; omega
 have aO:=Hd hm0
 have aP:=Hd (show m ≤ maxLen by unfold maxLen; omega)
 have aQ:=Hd (show m * 8 ≤ 140737488355328 by omega)
 have HN1:=Hd (show n ≤ maxLen by unfold maxLen; omega)
 have HN2:=Hd (show n * 8 ≤ 140737488355328 by omega)
 have HOC:=Hd (nats_oneCell RD)
 have HOCN:=Hd (nats_oneCell RN)
 subst hS
 clear hex hey hval hN hD hok hmm hnn hm0 hm1 hn1
 have HA:=Hd hA
 have HB:=Hd hB
 clear hA hB
 go_enter Tryz.func53,Tryz.ntmps53
 have aB:=Hd (((Below.refl w.heap.size w).alloc (Nat.le_refl _) (.cells #[.bool s,.slice A n c,.slice B m d] 35)).alloc (by simp) (.cells #[.bool false,.slice none 0 0,.slice none 0 0] 35))
 have aI:=Hd ((HeldL.new_at w (w.heap.size) [.bool s,.slice A n c,.slice B m d] 35 (by first | rfl | simp)).alloc (.cells #[.bool false,.slice none 0 0,.slice none 0 0] 35))
 have aA:=Hd (HeldL.new_at (w.alloc (.cells #[.bool s,.slice A n c,.slice B m d] 35)) (w.heap.size + 1) [.bool false,.slice none 0 0,.slice none 0 0] 35 (by first | rfl | simp))
 have aM : w.heap.size ≠ w.heap.size + 1:=by omega
 have aN : w.heap.size + 1 ≠ w.heap.size:=by omega
 go_upto_region 1 with fail
 obtain ⟨w0,hw0⟩ : ∃ u,((w.alloc (.cells #[.bool s,.slice A n c,.slice B m d] 35)).alloc (.cells #[.bool false,.slice none 0 0,.slice none 0 0] 35)) = u:=⟨_,rfl⟩
 rw [hw0] at aI aA aB ⊢
 clear hw0
 obtain ⟨aJ,aK,aL⟩:=aI.out.c3
 obtain ⟨aF,aC,aG,aD,aH,aE⟩:=aA.out.g3
 go_cut [2] (fun ptr wx=>ptr = .pointer (some ⟨w.heap.size + 1,0,none⟩) ∧ ∃ A1 c1 A2 c2,HeldL wx (w.heap.size + 1) [.bool s,.slice A1 (nats RN).length c1,.slice A2 (nats RD).length c2] ∧ OwnV wx w.heap.size 3 (.slice A1 (nats RN).length c1) (nats RN) ∧ OwnV wx w.heap.size 3 (.slice A2 (nats RD).length c2) (nats RD) ∧ ((Value.slice A1 (nats RN).length c1).ownBlock = none ∨ (Value.slice A1 (nats RN).length c1).ownBlock ≠ (Value.slice A2 (nats RD).length c2).ownBlock) ∧ ((Value.slice A2 (nats RD).length c2).ownBlock = none ∨ (Value.slice A2 (nats RD).length c2).ownBlock ≠ (Value.slice A1 (nats RN).length c1).ownBlock) ∧ Below w.heap.size w wx)
 case first=>
  have HW1:=Hd (whole_empty w0 3)
  have HW2:=Hd (Whole.below (whole_empty w0 3) ((Below.refl _ (w0.alloc (.cells #[] 3))).alloc (Nat.le_refl _) (.cells #[] 3)))
  have HW3:=Hd (show Whole ((w0.alloc (.cells #[] 3)).alloc (.cells #[] 3)) w0.heap.size (w0.heap.size + 1) 3 [] by have h:=whole_empty (w0.alloc (.cells #[] 3)) 3; have h2:=whole_of (base:=w0.heap.size) (by simp) (whole_heap h) (by unfold maxLen; decide); simpa using h2)
  go_region_held3 (fun w' =>w'.cell? ⟨w.heap.size,0,none⟩ = some (.bool s) ∧ w'.cell? ⟨w.heap.size,1,none⟩ = some (.slice A n c) ∧ w'.cell? ⟨w.heap.size,2,none⟩ = some (.slice B m d)) (go_keep)
   (first
     |(refine step_append_row rfl (.tmp 6) (.tmp 9) 23 rfl 3 i0 _ 8 Tryz.underlying23 hi hz0 hz1 hz2 rfl w0.heap.size _ (by simp [Act.eval] <;> rfl) A n c (nats RN) (by simp [Act.eval] <;> rfl) HA.out.2.2.2 HN1.out HN2.out HOCN.out ?_ ?_ ?_ ?_
       first | exact HW1.out | exact HW2.out | exact HW3.out
       first | exact (HAn.out.below (aB.out.alloc aB.out.size (.cells #[] 3)).drew (Nat.le_refl _)).1 | exact (HAn.out.below ((aB.out.alloc aB.out.size (.cells #[] 3)).alloc (aB.out.alloc aB.out.size (.cells #[] 3)).size (.cells #[] 3)).drew (Nat.le_refl _)).1
       simp <;> omega
       intro A1 c1 w1 ho hb
       have T9 : Below w0.heap.size w0 w1:=by first | exact (((Below.refl _ w0).alloc (Nat.le_refl _) (.cells #[] 3)).drew).trans hb | exact ((((Below.refl _ w0).alloc (Nat.le_refl _) (.cells #[] 3)).alloc (by simp) (.cells #[] 3)).drew).trans hb
       have HX1:=Hd T9
       clear T9 hb
       have KA1:=Hd (aI.out.after HX1.out)
       have KR1:=Hd (aA.out.after HX1.out)
       have HO1:=Hd ho
       clear ho
       have HB1:=Hd (aB.out.trans (HX1.out.mono aB.out.size))
       obtain ⟨hka1_0,hka1_1⟩:=KA1.out.c2
       have hka1_2:=KA1.out.cell 2 _ rfl)
     |(refine step_append_fresh rfl (.tmp 12) (.tmp 14) 23 rfl 3 i0 _ 8 Tryz.underlying23 hi hz0 hz1 hz2 rfl _ (by simp [Act.eval] <;> rfl) B m d (nats RD) (by simp [Act.eval] <;> rfl) aO.out aP.out aQ.out HOC.out ?_ ?_
       first | exact (HBn.out.below HB1.out (Nat.le_refl _)).1 | exact (HBn.out.below (HB1.out.alloc HB1.out.size (.cells #[] 3)) (Nat.le_refl _)).1
       intro A2 c2 w2 ho hb
       have T9 : HeldL w2 (w.heap.size) [.bool s,.slice A n c,.slice B m d]:=by first | exact KA1.out.after hb | exact (KA1.out.alloc (.cells #[] 3)).after hb
       have KA2:=Hd T9
       clear T9
       have T9 : HeldL w2 (w.heap.size + 1) [.bool false,.slice none 0 0,.slice none 0 0]:=by first | exact KR1.out.after hb | exact (KR1.out.alloc (.cells #[] 3)).after hb
       have KR2:=Hd T9
       clear T9
       have T9 : OwnV w2 w0.heap.size 3 (.slice A1 (nats RN).length c1) (nats RN):=by first | exact OwnV.below HO1.out hb | exact OwnV.below (OwnV.below HO1.out ((Below.refl _ w1).alloc (Nat.le_refl _) (.cells #[] 3))) hb
       have HO1b:=Hd T9
       clear T9
       have AP1:=Hd (show (Value.slice A1 (nats RN).length c1).ownBlock = none ∨ (Value.slice A1 (nats RN).length c1).ownBlock ≠ (Value.slice A2 (nats RD).length c2).ownBlock by first | exact OwnV.apart HO1.out ho (Nat.le_refl _) | exact OwnV.apart HO1.out ho (by simp))
       have AP2:=Hd (show (Value.slice A2 (nats RD).length c2).ownBlock = none ∨ (Value.slice A2 (nats RD).length c2).ownBlock ≠ (Value.slice A1 (nats RN).length c1).ownBlock by first | exact OwnV.apart' ho HO1.out (Nat.le_refl _) | exact OwnV.apart' ho HO1.out (by simp))
       have T9 : OwnV w2 w1.heap.size 3 (.slice A2 (nats RD).length c2) (nats RD):=by first | exact ho.based (Nat.le_refl _) | exact ho.based (by simp)
       have HO2:=Hd T9
       clear T9 ho
       have T9 : Below w.heap.size w w2:=by first | exact HB1.out.trans (hb.mono HB1.out.size) | exact (HB1.out.alloc HB1.out.size (.cells #[] 3)).trans (hb.mono (HB1.out.alloc HB1.out.size (.cells #[] 3)).size)
       have HB2:=Hd T9
       clear T9 hb
       obtain ⟨hka2_0,hka2_1,hka2_2⟩:=KA2.out.c3
       obtain ⟨hkr2_0,hkr2_1,hkr2_2⟩:=KR2.out.c3
       obtain ⟨hkf2_0,hkf2_1⟩:=KR2.out.f2
       have hkf2_2:=KR2.out.froz 2 _ rfl))
  all_goals go_wp2_with fail
  all_goals go_meet
  all_goals refine ⟨rfl,A1,c1,A2,c2,?_,?_,?_,AP1.out,AP2.out,?_⟩
  all_goals first
   | exact ((KR2.out.set 0 _ _ rfl).set 1 _ _ rfl).set 2 _ _ rfl
   | exact (((HO1b.out.setBelow aA.out.lt _).setBelow aA.out.lt _).setBelow aA.out.lt _).based aB.out.size
   | exact (((HO2.out.setBelow KR1.out.lt _).setBelow KR1.out.lt _).setBelow KR1.out.lt _).based HB1.out.size
   | exact ((HB2.out.setCell (by simp) _).setCell (by simp) _).setCell (by simp) _
 clear aJ
 clear aK
 clear aL
 clear aF
 clear aC
 clear aG
 clear aD
 clear aH
 clear aE
 obtain ⟨rfl,A1,c1,A2,c2,hkr,ho1,ho2,ap1,ap2,hbw⟩:=hcut
 have aR:=Hd hkr
 have HO1:=Hd ho1
 have HO2:=Hd ho2
 have AP1:=Hd ap1
 have AP2:=Hd ap2
 have HBW:=Hd hbw
 clear hkr ho1 ho2 ap1 ap2 hbw
 go_wp2
 obtain ⟨hr0,hr1,hr2⟩:=aR.out.c3
 exact bodyPost_ret (v:=.agg #[.bool s,.slice A1 (nats RN).length c1,.slice A2 (nats RD).length c2]) (by simp [results,Tryz.results53,go_sem,hr0,hr1,hr2]) rfl ⟨_,_,rfl,HO1.out,HO2.out,AP1.out,AP2.out,HBW.out⟩
end Go.Proofs.YtodoiekbjjiocaaGreat
