/- Proved: at every slice of links, impl.JoinLinks answers as its model spec.JoinLinks in every result, writes into no argument, its answer owns its memory, the call returns true and changes no memory that was there. Conditions: none. -/
import Derived.Test.YtodoiekbjjiocaaGreatJPk
import Derived.Test.YtodoiekbjjiocaaGreatRows
import Derived.Test.YtodoiekbjjiocaaGreatJB1
import Derived.Test.YtodoiekbjjiocaaGreatJOpenL
import Derived.Test.YtodoiekbjjiocaaGreatJLkBase
import Derived.Test.YtodoiekbjjiocaaGreatJMarkL
import Derived.Test.YtodoiekbjjiocaaGreatJHand
import Derived.Test.YtodoiekbjjiocaaGreatJAddOpen
import Derived.Test.YtodoiekbjjiocaaGreatJJoinI
import Derived.Test.YtodoiekbjjiocaaGreatJJoinS
import Derived.WalkKit
import Derived.ProofKit
import Derived.OpenShut
import Derived.ShutString
import Derived.ChangeOld
import Derived.Below
namespace Go.Proofs.YtodoiekbjjiocaaGreat.lawJoinLinks
open Go.ChangeShapes Go.WideShapes Go.ChangeAt Go.RowKit
open Go.ChangeMaps (open_string shut_string)
set_option linter.unusedVariables false
theorem own : ownKnob Tryz.prog.godebug = none:=by kernel_rfl
theorem laidOut : laidOutB Tryz.prog = true:=by kernel_rfl
open Nt Fr
set_option maxRecDepth 100000 in
set_option maxHeartbeats 80000000 in
theorem walk (W : World) (a0 : Option Addr) (len0 cap0 : Nat) (z0 : List Lr) (w0 : IsLinks W a0 len0 cap0 z0) :
 Calls Tryz.prog 4 #[.slice a0 len0 cap0] W fun e w' =>e = .returned (.bool true) ∧ Below W.heap.size W w':=by
 obtain ⟨hA,hcap,hcm⟩:=w0
 have hlm : len0 ≤ 9223372036854775807:=by unfold maxLen at hcm; omega
 have HZ:=Hd hA.1
 have HA:=Hd hA
 clear hA hcm
 have cU:=Hd (show St W W (([])) (([])) from St.start W)
 go_enter Tryz.func4,Tryz.ntmps4
 go_wp2_with fail
 refine (szLinkS_any a0 len0 cap0 z0 1048576 _ (by omega) (by omega) (HA.out.below cU.out.below) hlm).mono ?_
 rintro e d1 ⟨rfl,hb⟩
 have cF:=Hd (cU.out.call hb)
 clear cU
 clear hb
 by_cases hs0 : (1048576 : Int) < ((len0 + lensL z0 : Nat) : Int)
 ·rw [szOf_neg hs0]
  go_wp2
  go_ret
  exact ⟨rfl,cF.out.below⟩
 rw [szOf_pos hs0]
 obtain ⟨left0,hq0⟩ : ∃ q : Int,1048576 - ((len0 + lensL z0 : Nat) : Int) = q:=⟨_,rfl⟩
 have hl0_ : 0 ≤ left0 ∧ left0 ≤ 1048576 ∧ len0 + lensL z0 ≤ 1048576:=by omega
 rw [hq0]
 have HN:=Hd hl0_.2.2
 have hl1 : len0 ≤ 1048576:=by omega
 clear hq0 hs0
 obtain ⟨R,hR⟩ : ∃ z,jlAns z0 = z:=⟨_,rfl⟩
 have hbd : (rD R).length ≤ 101 ∧ lensD (rD R) ≤ 1048720 ∧ (rE R).len ≤ 120:=by
  rw [← hR]
  exact jlAns_small z0
 obtain ⟨RD,hRD⟩ : ∃ z,rD R = z:=⟨_,rfl⟩
 obtain ⟨RE,hRE⟩ : ∃ z,rE R = z:=⟨_,rfl⟩
 obtain ⟨rok,hrok⟩ : ∃ z,R.isSome = z:=⟨_,rfl⟩
 obtain ⟨nR,hnR⟩ : ∃ n,RD.length = n:=⟨_,rfl⟩
 obtain ⟨mR,hmR⟩ : ∃ n,lensD RD = n:=⟨_,rfl⟩
 rw [hRD,hRE,hnR,hmR] at hbd
 have hlen : RE.len ≤ 1048576:=by omega
 have hnb : nR ≤ 101 ∧ mR ≤ 1048720:=⟨hbd.1,hbd.2.1⟩
 have HOA:=Hd (show ∀ (w1 w : World) (en : Ending) (bs : List (Nat × List Value)) (cs : List Chunk),OwnSE R w1 en w → St W w1 bs cs → ∃ A c ys bO cO A0 n0 c0 A1 n1 c1,en = .returned (.tuple #[.slice A nR c,.agg #[.bool RE.s,.slice A0 n0 c0,.slice A1 n1 c1],.bool rok]) ∧ dts ys = RD ∧ ys.length = nR ∧ lensL ys = mR ∧ Lks A nR c ys bO cO ∧ St W w (bs ++ bO) ([(.slice A0 n0 c0,ints RE.xs),(.slice A1 n1 c1,ints RE.ys)] :: (cs ++ cO)) from by
  intro w1 w en bs cs h hS
  obtain ⟨A,c,ys,bO,cO,A0,n0,c0,A1,n1,c1,he,hd,hk,hst⟩:=h.lks hS
  have hyl : ys.length = nR:=by rw [← dts_len,hd,hRD]; exact hnR
  rw [hyl] at he hk
  rw [hRD] at hd
  rw [hRE] at he hst
  rw [hrok] at he
  exact ⟨A,c,ys,bO,cO,A0,n0,c0,A1,n1,c1,he,hd,hyl,by rw [← lensD_dts,hd]; exact hmR,hk,hst⟩)
 have HS:=Hd (show ∀ (A : Option Addr) (c : Nat) (ys : List Lr) (u : World),ys.length = len0 → (∀ (i : Nat) (y z : Lr),ys[i]? = some y → z0[i]? = some z → y.like z) → LArg u A len0 ys → Calls Tryz.prog 19 #[.slice A len0 c] u (OwnSE R u) from fun A c ys u e1 e2 h1=>by
  have h:=joinLinks_s A len0 c ys u h1 hl1
  rw [← hR,← jlAns_like e1 HZ.out e2]
  exact h)
 have HI:=Hd (show ∀ (A : Option Addr) (c : Nat) (ys : List Lr) (u : World),ys.length = len0 → (∀ (i : Nat) (y z : Lr),ys[i]? = some y → z0[i]? = some z → y.like z) → LArg u A len0 ys → Calls Tryz.prog 20 #[.slice A len0 c] u (OwnSE R u) from fun A c ys u e1 e2 h1=>by
  have h:=joinLinks_i A len0 c ys u h1 hl1
  rw [← hR,← jlAns_like e1 HZ.out e2]
  exact h)
 clear hR hRD hRE hrok hnR hmR hbd
 go_wp2_with fail
 refine (toLinkS_any a0 len0 cap0 z0 _ (HA.out.below cF.out.below) HN.out).mono ?_
 rintro e dK ⟨bt,yt,rfl,hyl,hlk,hst⟩
 rw [HZ.out] at hyl ⊢
 have dB:=Hd hyl
 have dL:=Hd hlk
 have cV:=Hd (show St W dK ((bt,cellsL yt) :: ([])) (rowsL yt :: ([])) from cF.out.comp hst)
 clear cF
 clear hyl hlk hst
 go_wp2_with fail
 refine (HS.out (some ⟨bt,0,none⟩) len0 yt _ dB.out dL.out (dB.out ▸ cV.out.larg 0 0 rfl rfl)).mono ?_
 intro e aA ho
 obtain ⟨LAw,lcw,yw,bOw,cOw,Aw,nw,cw,Bw,mw,dw,rfl,hd,hyl,hml,hk,hst⟩:=HOA.out _ _ _ _ _ ho cV.out
 have cW:=Hd hd
 have dM:=Hd hyl
 have d2:=Hd hml
 have cX:=Hd hk
 have dC:=Hd (show St W aA ((bt,cellsL yt) :: (bOw)) ([((.slice Aw nw cw),ints RE.xs),((.slice Bw mw dw),ints RE.ys)] :: rowsL yt :: (cOw)) from hst)
 clear cV
 clear hd hyl hml hk hst ho
 have cG:=Hd (dC.out.alloc [.bool RE.s,(.slice Aw nw cw),(.slice Bw mw dw)] 35)
 clear dC
 have cH:=cG.out.ne 1 0 rfl rfl (by decide)
 have cI:=cG.out.ne 0 1 rfl rfl (by decide)
 have cY:=Hd (show St W (aA.alloc (.cells #[.bool RE.s,(.slice Aw nw cw),(.slice Bw mw dw)] 35)) ((aA.heap.size,[.bool RE.s,(.slice Aw nw cw),(.slice Bw mw dw)]) :: (bOw)) ([((.slice Aw nw cw),ints RE.xs),((.slice Bw mw dw),ints RE.ys)] :: (cOw)) from ((cG.out.dropBox 1).drop 1))
 clear cG
 go_wp2_with fail
 refine (toLinkS_any a0 len0 cap0 z0 _ (HA.out.below cY.out.below) HN.out).mono ?_
 rintro e dN ⟨bx,yx,rfl,hyl,hlk,hst⟩
 rw [HZ.out] at hyl ⊢
 have b6:=Hd hyl
 have cZ:=Hd hlk
 have c2:=Hd (show St W dN ((bx,cellsL yx) :: (aA.heap.size,[.bool RE.s,(.slice Aw nw cw),(.slice Bw mw dw)]) :: (bOw)) (rowsL yx :: [((.slice Aw nw cw),ints RE.xs),((.slice Bw mw dw),ints RE.ys)] :: (cOw)) from cY.out.comp hst)
 clear cY
 clear hyl hlk hst
 go_wp2_with fail
 refine (HI.out (some ⟨bx,0,none⟩) len0 yx _ b6.out cZ.out (b6.out ▸ c2.out.larg 0 0 rfl rfl)).mono ?_
 intro e aC ho
 obtain ⟨LAg,lcg,yg,bOg,cOg,Ag,ng,cg,Bg,mg,dg,rfl,hd,hyl,hml,hk,hst⟩:=HOA.out _ _ _ _ _ ho c2.out
 have dD:=Hd hd
 have b8:=Hd hyl
 have b7:=Hd hml
 have c4:=Hd hk
 have dE:=Hd (show St W aC ((bx,cellsL yx) :: (aA.heap.size,[.bool RE.s,(.slice Aw nw cw),(.slice Bw mw dw)]) :: (bOw ++ bOg)) ([((.slice Ag ng cg),ints RE.xs),((.slice Bg mg dg),ints RE.ys)] :: rowsL yx :: [((.slice Aw nw cw),ints RE.xs),((.slice Bw mw dw),ints RE.ys)] :: (cOw ++ cOg)) from hst)
 clear c2
 clear hd hyl hml hk hst ho
 have bV:=Hd (dE.out.alloc [.bool RE.s,(.slice Ag ng cg),(.slice Bg mg dg)] 35)
 clear dE
 have cJ:=bV.out.ne 1 0 rfl rfl (by decide)
 have cK:=bV.out.ne 0 1 rfl rfl (by decide)
 have cL:=bV.out.ne 2 0 rfl rfl (by decide)
 have cM:=bV.out.ne 0 2 rfl rfl (by decide)
 obtain ⟨bP,bQ,bR⟩:=bV.out.c3 0 rfl
 obtain ⟨bS,bT,bU⟩:=bV.out.c3 2 rfl
 go_wp2_with fail
 refine (eqLinkS_same LAg LAw nR lcg lcw yg yw _ (bV.out.lksRow c4.out (fun p hp=>by simp [hp]) (fun p hp=>by simp [hp])) (bV.out.lksRow cX.out (fun p hp=>by simp [hp]) (fun p hp=>by simp [hp])) (like_dts (dD.out.trans cW.out.symm)) (by omega)).mono ?_
 rintro e d3 ⟨rfl,hb⟩
 have aD:=Hd (bV.out.call hb)
 clear bV
 clear hb
 clear bP bQ bR bS bT bU
 obtain ⟨aE,aF,aG⟩:=aD.out.c3 0 rfl
 obtain ⟨aH,aI,aJ⟩:=aD.out.c3 2 rfl
 go_wp2_with fail
 refine (eqRat_f RE (.slice Ag ng cg) (.slice Bg mg dg) _ (.slice Aw nw cw) (.slice Bw mw dw) (aD.out.fr 0 0 rfl rfl rfl).i (aD.out.fr 2 0 rfl rfl rfl).i).mono ?_
 rintro e d4 ⟨rfl,hb⟩
 have b0:=Hd (aD.out.call hb)
 clear aD
 clear hb
 clear aE aF aG aH aI aJ
 go_wp2_with fail
 refine (toLinkS_any a0 len0 cap0 z0 _ (HA.out.below b0.out.below) HN.out).mono ?_
 rintro e dO ⟨bu,yu,rfl,hyl,hlk,hst⟩
 rw [HZ.out] at hyl ⊢
 have dF:=Hd hyl
 have dP:=Hd hlk
 have bW:=Hd (show St W dO ((bu,cellsL yu) :: (aC.heap.size,[.bool RE.s,(.slice Ag ng cg),(.slice Bg mg dg)]) :: (bx,cellsL yx) :: (aA.heap.size,[.bool RE.s,(.slice Aw nw cw),(.slice Bw mw dw)]) :: (bOw ++ bOg)) (rowsL yu :: [((.slice Ag ng cg),ints RE.xs),((.slice Bg mg dg),ints RE.ys)] :: rowsL yx :: [((.slice Aw nw cw),ints RE.xs),((.slice Bw mw dw),ints RE.ys)] :: (cOw ++ cOg)) from b0.out.comp hst)
 clear b0
 clear hyl hlk hst
 go_wp2_with fail
 refine (eqLinkS_same (some ⟨bx,0,none⟩) (some ⟨bu,0,none⟩) len0 len0 len0 yx yu _ (b6.out ▸ bW.out.lrow 2 2 rfl rfl) (dF.out ▸ bW.out.lrow 0 0 rfl rfl) (like_both b6.out dF.out HZ.out cZ.out dP.out) hl1).mono ?_
 rintro e dG ⟨rfl,hb⟩
 have b9:=Hd (bW.out.call hb)
 clear bW
 clear hb
 have cA:=Hd (show St W dG ((aC.heap.size,[.bool RE.s,(.slice Ag ng cg),(.slice Bg mg dg)]) :: (bx,cellsL yx) :: (aA.heap.size,[.bool RE.s,(.slice Aw nw cw),(.slice Bw mw dw)]) :: (bOw ++ bOg)) ([((.slice Ag ng cg),ints RE.xs),((.slice Bg mg dg),ints RE.ys)] :: rowsL yx :: [((.slice Aw nw cw),ints RE.xs),((.slice Bw mw dw),ints RE.ys)] :: (cOw ++ cOg)) from ((b9.out.dropBox 0).drop 0))
 clear b9
 go_wp2_with fail
 have cB:=Hd (show St W dG ((bx,cellsL yx) :: (aC.heap.size,[.bool RE.s,(.slice Ag ng cg),(.slice Bg mg dg)]) :: (aA.heap.size,[.bool RE.s,(.slice Aw nw cw),(.slice Bw mw dw)]) :: (bOw ++ bOg)) (rowsL yx :: [((.slice Ag ng cg),ints RE.xs),((.slice Bg mg dg),ints RE.ys)] :: [((.slice Aw nw cw),ints RE.xs),((.slice Bw mw dw),ints RE.ys)] :: (cOw ++ cOg)) from cA.out.front 1 1 rfl rfl)
 clear cA
 have hll : lensL yx = lensL z0:=by rw [← lensD_dts yx,← lensD_dts z0,dts_like b6.out HZ.out cZ.out]
 refine (markLinkS_f bx len0 len0 1 1 (by rfl) yx W _ _ _ b6.out cB.out (by rw [hll]; have:=HN.out; omega)).mono ?_
 rintro e c5 ⟨rfl,hst⟩
 rw [hll]
 have aK:=Hd (show St W c5 ((aC.heap.size,[.bool RE.s,(.slice Ag ng cg),(.slice Bg mg dg)]) :: (aA.heap.size,[.bool RE.s,(.slice Aw nw cw),(.slice Bw mw dw)]) :: (bOw ++ bOg)) ([((.slice Ag ng cg),ints RE.xs),((.slice Bg mg dg),ints RE.ys)] :: [((.slice Aw nw cw),ints RE.xs),((.slice Bw mw dw),ints RE.ys)] :: (cOw ++ cOg)) from (hst.dropBox 0).drop 0)
 clear cB
 clear hst hll
 obtain ⟨km,hkm⟩ : ∃ q : Nat,1 + 5 * len0 + lensL z0 = q:=⟨_,rfl⟩
 have hkmb : km ≤ 6291456:=by have:=HN.out; omega
 rw [hkm]
 clear hkm
 have hkm0 : decide ((km : Int) < 0) = false:=decide_eq_false (by omega)
 obtain ⟨aL,aM,aN⟩:=aK.out.c3 0 rfl
 obtain ⟨aO,aP,aQ⟩:=aK.out.c3 1 rfl
 go_wp2_with fail
 refine (eqLinkS_same LAg LAw nR lcg lcw yg yw _ (aK.out.lksRow c4.out (fun p hp=>by simp [hp]) (fun p hp=>by simp [hp])) (aK.out.lksRow cX.out (fun p hp=>by simp [hp]) (fun p hp=>by simp [hp])) (like_dts (dD.out.trans cW.out.symm)) (by omega)).mono ?_
 rintro e dQ ⟨rfl,hb⟩
 have aR:=Hd (aK.out.call hb)
 clear aK
 clear hb
 clear aL aM aN aO aP aQ
 obtain ⟨aS,aT,aU⟩:=aR.out.c3 0 rfl
 obtain ⟨aV,aW,aX⟩:=aR.out.c3 1 rfl
 go_wp2_with fail
 refine (eqRat_f RE (.slice Ag ng cg) (.slice Bg mg dg) _ (.slice Aw nw cw) (.slice Bw mw dw) (aR.out.fr 0 0 rfl rfl rfl).i (aR.out.fr 1 0 rfl rfl rfl).i).mono ?_
 rintro e c6 ⟨rfl,hb⟩
 have cC:=Hd (aR.out.call hb)
 clear aR
 clear hb
 clear aS aT aU aV aW aX
 go_wp2_with fail
 refine (markLinkS_o LAg nR lcg 1 1 (by rfl) yg W _ bOg _ cOg _ c4.out (show St W c6 (((aC.heap.size,[.bool RE.s,(.slice Ag ng cg),(.slice Bg mg dg)]) :: (aA.heap.size,[.bool RE.s,(.slice Aw nw cw),(.slice Bw mw dw)]) :: (bOw)) ++ bOg) (([((.slice Ag ng cg),ints RE.xs),((.slice Bg mg dg),ints RE.ys)] :: [((.slice Aw nw cw),ints RE.xs),((.slice Bw mw dw),ints RE.ys)] :: (cOw)) ++ cOg) from cC.out).swap (by rw [b7.out]; omega)).mono ?_
 rintro e c7 ⟨rfl,bOm,cOm,hk,hst⟩
 rw [b7.out]
 have dH:=Hd hk
 have bX:=Hd (show St W c7 ((aC.heap.size,[.bool RE.s,(.slice Ag ng cg),(.slice Bg mg dg)]) :: (aA.heap.size,[.bool RE.s,(.slice Aw nw cw),(.slice Bw mw dw)]) :: (bOw ++ bOm)) ([((.slice Ag ng cg),ints RE.xs),((.slice Bg mg dg),ints RE.ys)] :: [((.slice Aw nw cw),ints RE.xs),((.slice Bw mw dw),ints RE.ys)] :: (cOw ++ cOm)) from hst.swap)
 clear cC
 clear hk hst
 obtain ⟨mm,hmm⟩ : ∃ q : Nat,1 + 5 * nR + mR = q:=⟨_,rfl⟩
 have hmmb : mm ≤ 2097152:=by omega
 rw [hmm]
 have dI:=Hd hmm
 clear hmm
 obtain ⟨aY,aZ,a2⟩:=bX.out.c3 0 rfl
 go_wp2_with fail
 obtain ⟨m0,hm0⟩ : ∃ z,lenL [((.slice Ag ng cg),ints RE.xs),((.slice Bg mg dg),ints RE.ys)] = z:=⟨_,rfl⟩
 have hbm0 : m0 ≤ 2097152:=by rw [← hm0]; simp only [lenL,ints_len]; have h9:=hlen; simp only [Fr.len] at h9; omega
 have Hm0:=Hd hm0
 clear hm0
 refine (markRat_f (.slice Ag ng cg) (.slice Bg mg dg) _ RE.s (ints RE.xs) (ints RE.ys) (mm) W.heap.size _ (by first | rfl | omega) (bX.out.own 0 rfl) (by rw [show lenL _ = m0 from Hm0.out]; omega)).mono ?_
 rintro e c8 ⟨rfl,ho,ht⟩
 rw [show lenL _ = m0 from Hm0.out]
 have b1:=Hd (bX.out.marked 0 rfl ho ht)
 clear bX
 clear ho ht
 clear aY aZ a2
 go_wp2_with fail
 refine (heldLinkS_o LAg nR lcg 1 1 (by rfl) yg W _ bOm _ cOm _ b8.out dH.out (show St W c8 (((aC.heap.size,[.bool RE.s,(.slice Ag ng cg),(.slice Bg mg dg)]) :: (aA.heap.size,[.bool RE.s,(.slice Aw nw cw),(.slice Bw mw dw)]) :: (bOw)) ++ bOm) ((markL (mm) [((.slice Ag ng cg),ints RE.xs),((.slice Bg mg dg),ints RE.ys)] :: [((.slice Aw nw cw),ints RE.xs),((.slice Bw mw dw),ints RE.ys)] :: (cOw)) ++ cOm) from b1.out).swap (by rw [b7.out]; omega)).mono ?_
 rintro e dR ⟨rfl,hb⟩
 rw [b7.out,dI.out]
 have bY:=Hd (b1.out.call hb)
 clear b1
 clear hb
 obtain ⟨a3,a4,a5⟩:=bY.out.c3 0 rfl
 go_wp2_with fail
 refine (heldRat_f (.slice Ag ng cg) (.slice Bg mg dg) _ RE.s (ints RE.xs) (ints RE.ys) (mm) W.heap.size _ (by first | rfl | omega) (bY.out.own 0 rfl) (by rw [show lenL _ = m0 from Hm0.out]; omega)).mono ?_
 rintro e dS ⟨rfl,hb⟩
 rw [show lenL _ = m0 from Hm0.out]
 have b2:=Hd (bY.out.call hb)
 clear bY
 clear hb
 clear a3 a4 a5
 go_wp2_with fail
 refine (toLinkS_any a0 len0 cap0 z0 _ (HA.out.below b2.out.below) HN.out).mono ?_
 rintro e c9 ⟨bz,yz,rfl,hyl,hlk,hst⟩
 rw [HZ.out] at hyl ⊢
 have dJ:=Hd hyl
 have dT:=Hd hlk
 have b3:=Hd (show St W c9 ((bz,cellsL yz) :: (aC.heap.size,[.bool RE.s,(.slice Ag ng cg),(.slice Bg mg dg)]) :: (aA.heap.size,[.bool RE.s,(.slice Aw nw cw),(.slice Bw mw dw)]) :: (bOw ++ bOm)) (rowsL yz :: markL (mm) [((.slice Ag ng cg),ints RE.xs),((.slice Bg mg dg),ints RE.ys)] :: [((.slice Aw nw cw),ints RE.xs),((.slice Bw mw dw),ints RE.ys)] :: (cOw ++ cOm)) from b2.out.comp hst)
 clear b2
 clear hyl hlk hst
 go_wp2_with fail
 refine (HI.out (some ⟨bz,0,none⟩) len0 yz _ dJ.out dT.out (dJ.out ▸ b3.out.larg 0 0 rfl rfl)).mono ?_
 intro e a6 ho
 obtain ⟨LAh,lch,yh,bOh,cOh,Ah,nh,ch,Bh,mh,dh,rfl,hd,hyl,hml,hk,hst⟩:=HOA.out _ _ _ _ _ ho b3.out
 have dU:=Hd hd
 have dV:=Hd hyl
 have d5:=Hd hml
 have dW:=Hd hk
 have cD:=Hd (show St W a6 ((bz,cellsL yz) :: (aC.heap.size,[.bool RE.s,(.slice Ag ng cg),(.slice Bg mg dg)]) :: (aA.heap.size,[.bool RE.s,(.slice Aw nw cw),(.slice Bw mw dw)]) :: (bOw ++ bOm ++ bOh)) ([((.slice Ah nh ch),ints RE.xs),((.slice Bh mh dh),ints RE.ys)] :: rowsL yz :: markL (mm) [((.slice Ag ng cg),ints RE.xs),((.slice Bg mg dg),ints RE.ys)] :: [((.slice Aw nw cw),ints RE.xs),((.slice Bw mw dw),ints RE.ys)] :: (cOw ++ cOm ++ cOh)) from hst)
 clear b3
 clear hd hyl hml hk hst ho
 have aB:=Hd (cD.out.alloc [.bool RE.s,(.slice Ah nh ch),(.slice Bh mh dh)] 35)
 clear cD
 have cN:=aB.out.ne 1 0 rfl rfl (by decide)
 have cP:=aB.out.ne 0 1 rfl rfl (by decide)
 have cQ:=aB.out.ne 2 0 rfl rfl (by decide)
 have cR:=aB.out.ne 0 2 rfl rfl (by decide)
 have cS:=aB.out.ne 3 0 rfl rfl (by decide)
 have cT:=aB.out.ne 0 3 rfl rfl (by decide)
 have a7:=Hd (show St W (a6.alloc (.cells #[.bool RE.s,(.slice Ah nh ch),(.slice Bh mh dh)] 35)) ((a6.heap.size,[.bool RE.s,(.slice Ah nh ch),(.slice Bh mh dh)]) :: (aC.heap.size,[.bool RE.s,(.slice Ag ng cg),(.slice Bg mg dg)]) :: (aA.heap.size,[.bool RE.s,(.slice Aw nw cw),(.slice Bw mw dw)]) :: (bOw ++ bOm ++ bOh)) ([((.slice Ah nh ch),ints RE.xs),((.slice Bh mh dh),ints RE.ys)] :: markL (mm) [((.slice Ag ng cg),ints RE.xs),((.slice Bg mg dg),ints RE.ys)] :: [((.slice Aw nw cw),ints RE.xs),((.slice Bw mw dw),ints RE.ys)] :: (cOw ++ cOm ++ cOh)) from ((aB.out.dropBox 1).drop 1))
 clear aB
 obtain ⟨a8,a9,bA⟩:=a7.out.c3 0 rfl
 obtain ⟨bB,bC,bD⟩:=a7.out.c3 2 rfl
 go_wp2_with fail
 refine (eqLinkS_same LAh LAw nR lch lcw yh yw _ (a7.out.lksRow dW.out (fun p hp=>by simp [hp]) (fun p hp=>by simp [hp])) (a7.out.lksRow cX.out (fun p hp=>by simp [hp]) (fun p hp=>by simp [hp])) (like_dts (dU.out.trans cW.out.symm)) (by omega)).mono ?_
 rintro e dX ⟨rfl,hb⟩
 have bE:=Hd (a7.out.call hb)
 clear a7
 clear hb
 clear a8 a9 bA bB bC bD
 obtain ⟨bF,bG,bH⟩:=bE.out.c3 0 rfl
 obtain ⟨bI,bJ,bK⟩:=bE.out.c3 2 rfl
 go_wp2_with fail
 refine (eqRat_f RE (.slice Ah nh ch) (.slice Bh mh dh) _ (.slice Aw nw cw) (.slice Bw mw dw) (bE.out.fr 0 0 rfl rfl rfl).i (bE.out.fr 2 0 rfl rfl rfl).i).mono ?_
 rintro e b4 ⟨rfl,hb⟩
 have cE:=Hd (bE.out.call hb)
 clear bE
 clear hb
 clear bF bG bH bI bJ bK
 have b5:=Hd (show St W b4 ((a6.heap.size,[.bool RE.s,(.slice Ah nh ch),(.slice Bh mh dh)]) :: (aC.heap.size,[.bool RE.s,(.slice Ag ng cg),(.slice Bg mg dg)]) :: (aA.heap.size,[.bool RE.s,(.slice Aw nw cw),(.slice Bw mw dw)]) :: (bOw ++ bOm)) ([((.slice Ah nh ch),ints RE.xs),((.slice Bh mh dh),ints RE.ys)] :: markL (mm) [((.slice Ag ng cg),ints RE.xs),((.slice Bg mg dg),ints RE.ys)] :: [((.slice Aw nw cw),ints RE.xs),((.slice Bw mw dw),ints RE.ys)] :: (cOw ++ cOm)) from (show St W b4 (((a6.heap.size,[.bool RE.s,(.slice Ah nh ch),(.slice Bh mh dh)]) :: (aC.heap.size,[.bool RE.s,(.slice Ag ng cg),(.slice Bg mg dg)]) :: (aA.heap.size,[.bool RE.s,(.slice Aw nw cw),(.slice Bw mw dw)]) :: (bOw ++ bOm)) ++ bOh) (([((.slice Ah nh ch),ints RE.xs),((.slice Bh mh dh),ints RE.ys)] :: markL (mm) [((.slice Ag ng cg),ints RE.xs),((.slice Bg mg dg),ints RE.ys)] :: [((.slice Aw nw cw),ints RE.xs),((.slice Bw mw dw),ints RE.ys)] :: (cOw ++ cOm)) ++ cOh) from cE.out).sub (List.sublist_append_left _ _) (List.sublist_append_left _ _))
 clear cE
 go_wp2_with fail
 refine (heldLinkS_o LAg nR lcg 1 1 (by rfl) yg W _ bOm _ cOm _ b8.out dH.out (show St W b4 (((a6.heap.size,[.bool RE.s,(.slice Ah nh ch),(.slice Bh mh dh)]) :: (aC.heap.size,[.bool RE.s,(.slice Ag ng cg),(.slice Bg mg dg)]) :: (aA.heap.size,[.bool RE.s,(.slice Aw nw cw),(.slice Bw mw dw)]) :: (bOw)) ++ bOm) (([((.slice Ah nh ch),ints RE.xs),((.slice Bh mh dh),ints RE.ys)] :: markL (mm) [((.slice Ag ng cg),ints RE.xs),((.slice Bg mg dg),ints RE.ys)] :: [((.slice Aw nw cw),ints RE.xs),((.slice Bw mw dw),ints RE.ys)] :: (cOw)) ++ cOm) from b5.out).swap (by rw [b7.out]; omega)).mono ?_
 rintro e dY ⟨rfl,hb⟩
 rw [b7.out,dI.out]
 have bZ:=Hd (b5.out.call hb)
 clear b5
 clear hb
 obtain ⟨bL,bM,bN⟩:=bZ.out.c3 1 rfl
 go_wp2_with fail
 refine (heldRat_f (.slice Ag ng cg) (.slice Bg mg dg) _ RE.s (ints RE.xs) (ints RE.ys) (mm) W.heap.size _ (by first | rfl | omega) (bZ.out.own 1 rfl) (by rw [show lenL _ = m0 from Hm0.out]; omega)).mono ?_
 rintro e dZ ⟨rfl,hb⟩
 rw [show lenL _ = m0 from Hm0.out]
 have dA:=Hd (bZ.out.call hb)
 clear bZ
 clear hb
 clear bL bM bN
 go_wp2
 go_ret
 exact ⟨rfl,dA.out.below⟩
set_option maxRecDepth 100000 in
theorem lifted (os : Os) (started : os.Started) (H : Type) (enc : TypeId × Value → H) :
 ReturnsInHanded {} Tryz.checked os 4 .any (Rows.fnExactJoinLinksSpec.pre6 enc Tryz.prog Tryz.f4 Rows.fnExactJoinLinksRow.domain false) (Rows.fnExactJoinLinksSpec.post enc Tryz.prog Tryz.f4 false true false false):=by
 refine returnsInHanded_of_change (C:=Tryz.checked) own started (by kernel_rfl) Tryz.func4
  (ChangeSpec.witness6 (enc:=enc) (C:=Tryz.checked) false ⟨#[],#[.slice none 0 0],[]⟩ 8 (by kernel_rfl) (by kernel_rfl) (by kernel_rfl) (by kernel_rfl)) ?_
 intro W base args ds gs before hval0 hW hcnd _
 have hval : ∀ (j : Nat) t v,Tryz.f4.params[j]? = some t → args[j]? = some v → Value.okWide Tryz.prog W .any base t v:=hval0
 have hW':=hW
 obtain ⟨p,q,hA0,hV,rfl,hfz,hnd⟩:=hW
 have hA : DataW.TrodAll enc Tryz.prog W 0 (fun _=>true) true Tryz.f4.params.toList args.toList ds p:=hA0
 rw [Tryz.params4] at hA hval
 obtain ⟨v0,vs0,d0,ds0,p0,q0,hargs,rfl,rfl,h0,r0⟩:=trodAll_cons hA
 obtain ⟨rfl,rfl,rfl⟩:=trodAll_nil r0
 obtain rfl : args = #[v0]:=by cases args; simp_all
 obtain ⟨rfl,rfl⟩:=trodVars_none hV
 obtain ⟨a0,len0,cap0,rfl⟩:=okWide_slice Tryz.underlying22 (hval 0 22 v0 rfl rfl)
 have k0:=h0
 have lt0 : ∀ x ∈ p0,x.block < W.heap.size:=by obtain ⟨m,hm⟩:=k0; exact DataW.trod_lt m _ _ _ hm
 obtain ⟨z0,w0⟩:=isLinks_of linkT Tryz.underlying22 h0
 clear hA0 hval0
 refine (walk W a0 len0 cap0 z0 w0).mono fun e W' ⟨he,bel⟩=>?_
 subst he
 exact ⟨_,rfl,_,_,_,[],_,[],hW',trodAll_mk1 (shut_bool Tryz.underlying4 _),(trodAll_cons_mk (Below.trod laidOut (by kernel_rfl) (of_decide_eq_true (by kernel_rfl)) k0 bel lt0) trodAll_mk0),rfl,bel.frame _,fun h=>by cases h⟩
theorem over : Rows.fnExactJoinLinksRow.holds Tryz.pinned (OpenSpec.ofChange Rows.fnExactJoinLinksSpec) :=
 OpenClaim.holds_of_wide 4 Tryz.f4 rfl rfl rfl rfl rfl rfl rfl ⟨rfl,rfl,rfl,rfl,rfl⟩ rfl rfl rfl rfl rfl (by kernel_rfl) Tryz.func4 (by kernel_rfl)
  (of_decide_eq_true (by kernel_rfl)) (by unfold Func.isWrapper; first | (rw [if_pos (by decide +kernel)]; kernel_rfl) | (rw [if_neg (by decide +kernel)]; exact ⟨rfl,rfl⟩))
  (fun os started H enc _=>lifted os started H enc)
theorem proved : Rows.FnExactJoinLinksSaid:=over
#print axioms proved
end Go.Proofs.YtodoiekbjjiocaaGreat.lawJoinLinks
