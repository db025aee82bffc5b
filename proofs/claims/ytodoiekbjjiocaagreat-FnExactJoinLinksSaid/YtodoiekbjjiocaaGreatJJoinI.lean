/- JoinLinks of the program. Conditions: none. -/
import Derived.Test.YtodoiekbjjiocaaGreatJPk
import Derived.Test.YtodoiekbjjiocaaGreatJJoinT
import Derived.Test.YtodoiekbjjiocaaGreatJHand
import Derived.Test.YtodoiekbjjiocaaGreatJAddTo
namespace Go.Proofs.YtodoiekbjjiocaaGreat
open Go.RowKit Nt Fr
set_option linter.unusedVariables false
set_option maxRecDepth 100000 in
set_option maxHeartbeats 40000000 in
theorem joinLinks_i (A : Option Addr) (n c : Nat) (zs : List Lr) (w : World) (hA : LArg w A n zs) (hn : n ≤ 1048576) :
 Calls Tryz.prog 20 #[.slice A n c] w (OwnSE (jlAns zs) w):=by
 have HA:=Hd hA
 have HL:=Hd (show (dts zs).length = n by rw [dts_len]; exact hA.row.1)
 obtain ⟨R,hR⟩ : ∃ z,jlAns zs = z:=⟨_,rfl⟩
 have HRR:=Hd (show joinD (dts zs) = R from hR)
 rw [hR]
 clear hA hR
 have dU:=Hd (St.start1 w [.bool false,.slice none 0 0,.slice none 0 0] 35)
 go_enter Tryz.func20,Tryz.ntmps20
 go_wp2_with fail
 refine (ratFromInt_i 0 _ (by decide)).mono ?_
 rintro e w2 ⟨v0,u0,rfl,ho,hb⟩
 obtain ⟨A0,n0,c0,rfl⟩:=(ho.at_ 0 rfl).shape3
 obtain ⟨B0,m0,d0,rfl⟩:=(ho.at_ 1 rfl).shape3
 have dS:=Hd (dU.out.rows ho hb)
 clear dU
 clear ho hb
 have hltr:=dS.out.lt 0 rfl
 have dR:=Hd (dS.out.alloc [.bool (Fr.of 0).s,(.slice A0 n0 c0),(.slice B0 m0 d0)] 35)
 clear dS
 have bC:=dR.out.ne 1 0 rfl rfl (by decide)
 have bD:=dR.out.ne 0 1 rfl rfl (by decide)
 obtain ⟨sb,hsb⟩ : ∃ u,w2.heap.size = u:=⟨_,rfl⟩
 rw [hsb] at dR hltr
 have HSB0:=Hd hsb
 have SZ1:=Hd hltr
 clear hsb hltr bC bD
 go_wp2
 rw [HSB0.out]
 have SX:=Hd dR.out
 have BU:=Hd dR.out.below
 go_loopw [5,15] (fun v i wr=>∃ (k : Nat) (ys : List Lr) (X : Fr) (x0 x1 : Value) (u : World),k ≤ n ∧ i = .int .i64 k ∧ u.heap.size = sb + 1 ∧ Below w.heap.size w u ∧ LGrow u wr v ys ∧ joinD ((dts zs).take k) = some (dts ys,X) ∧ X.Good ∧ St w wr [(sb,[.bool X.s,x0,x1]),(w.heap.size,[.bool false,.slice none 0 0,.slice none 0 0])] [[(x0,ints X.xs),(x1,ints X.ys)]] ∧ (∀ q ∈ [(x0,ints X.xs),(x1,ints X.ys)],Far v.ownBlock q.1.ownBlock) ∧ FarL (rowsL ys) [(x0,ints X.xs),(x1,ints X.ys)]) (fun _ i _=>n - (intOf i).toNat)
 case atStart=>exact ⟨0,[],Fr.of 0,_,_,_,Nat.zero_le _,rfl,by rw [← HSB0.out]; simp,BU.out,LGrow.nil (Below.refl _ _),rfl,of0_good,SX.out,(fun q hq k e=>by cases e),(fun p hp=>by cases hp)⟩
 case round=>
  obtain ⟨k,ys,X,x0,x1,u,hk,rfl,hu,hbu,hg,hj,hX,hst,hf1,hf2⟩:=hrel
  have HU:=Hd hu
  have HBU:=Hd hbu
  have HG:=Hd hg
  have HJ:=Hd hj
  have HX:=Hd hX
  obtain ⟨Ax,nx,cx,rfl⟩:=((hst.own 0 rfl).at_ 0 rfl).shape3
  obtain ⟨Bx,mx,dx,rfl⟩:=((hst.own 0 rfl).at_ 1 rfl).shape3
  have HF1:=Hd hf1
  have HF2:=Hd hf2
  have R_0:=Hd hst
  clear hu hbu hg hj hX hf1 hf2 hst SX
  obtain ⟨V,cv,rfl,hva⟩:=larg_grow HG.out
  have HVA:=Hd hva
  clear hva
  have hnsr : sb ≠ w.heap.size:=by have:=SZ1.out; omega
  have hnrs : w.heap.size ≠ sb:=by have:=SZ1.out; omega
  by_cases hlt : k < n
  ·obtain ⟨g1,o1,z,rfl,hg1,hz,hr,hc⟩:=HA.out.at_ hlt
   obtain ⟨ZA,ZB,ZP,ZQ,ZR,a0,n0,c0,a1,n1,c1,a2,n2,c2,a3,n3,c3,a4,n4,c4,a5,n5,c5,rfl⟩:=LArg.shapes hr
   have HD:=Hd (show (dts zs)[k]? = some ⟨ZA,ZB,ZP,ZQ,ZR⟩ from dts_at hz)
   have HR:=Hd hr
   have hi0 : (0 : Int) ≤ (k : Int):=by omega
   have hi1 : (k : Int) < (n : Int):=by omega
   have d0 : wr.cell? ⟨g1,o1 + k * 11,none⟩ = some (.int .i64 ZA):=(R_0.out.below.cell (p:=⟨g1,o1 + k * 11,none⟩) hg1).trans (hc 0 _ rfl)
   have d1 : wr.cell? ⟨g1,o1 + k * 11 + 1,none⟩ = some (.int .i64 ZB):=(R_0.out.below.cell (p:=⟨g1,o1 + k * 11 + 1,none⟩) hg1).trans (hc 1 _ rfl)
   have d2 : wr.cell? ⟨g1,o1 + k * 11 + 2,none⟩ = some (.bool ZP.s):=(R_0.out.below.cell (p:=⟨g1,o1 + k * 11 + 2,none⟩) hg1).trans (hc 2 _ rfl)
   have d3 : wr.cell? ⟨g1,o1 + k * 11 + 3,none⟩ = some ((.slice a0 n0 c0)):=(R_0.out.below.cell (p:=⟨g1,o1 + k * 11 + 3,none⟩) hg1).trans (hc 3 _ rfl)
   have d4 : wr.cell? ⟨g1,o1 + k * 11 + 4,none⟩ = some ((.slice a1 n1 c1)):=(R_0.out.below.cell (p:=⟨g1,o1 + k * 11 + 4,none⟩) hg1).trans (hc 4 _ rfl)
   have d5 : wr.cell? ⟨g1,o1 + k * 11 + 5,none⟩ = some (.bool ZQ.s):=(R_0.out.below.cell (p:=⟨g1,o1 + k * 11 + 5,none⟩) hg1).trans (hc 5 _ rfl)
   have d6 : wr.cell? ⟨g1,o1 + k * 11 + 6,none⟩ = some ((.slice a2 n2 c2)):=(R_0.out.below.cell (p:=⟨g1,o1 + k * 11 + 6,none⟩) hg1).trans (hc 6 _ rfl)
   have d7 : wr.cell? ⟨g1,o1 + k * 11 + 7,none⟩ = some ((.slice a3 n3 c3)):=(R_0.out.below.cell (p:=⟨g1,o1 + k * 11 + 7,none⟩) hg1).trans (hc 7 _ rfl)
   have d8 : wr.cell? ⟨g1,o1 + k * 11 + 8,none⟩ = some (.bool ZR.s):=(R_0.out.below.cell (p:=⟨g1,o1 + k * 11 + 8,none⟩) hg1).trans (hc 8 _ rfl)
   have d9 : wr.cell? ⟨g1,o1 + k * 11 + 9,none⟩ = some ((.slice a4 n4 c4)):=(R_0.out.below.cell (p:=⟨g1,o1 + k * 11 + 9,none⟩) hg1).trans (hc 9 _ rfl)
   have d10 : wr.cell? ⟨g1,o1 + k * 11 + 10,none⟩ = some ((.slice a5 n5 c5)):=(R_0.out.below.cell (p:=⟨g1,o1 + k * 11 + 10,none⟩) hg1).trans (hc 10 _ rfl)
   clear hz hc hr
   have dY:=Hd (show ys.length ≤ 1048576 from by have h:=okDts_len (joinD_ok HJ.out); rw [dts_len] at h; omega)
   have dB:=Hd (R_0.out.alloc [.int .i64 ZA,.int .i64 ZB,.bool ZP.s,(.slice a0 n0 c0),(.slice a1 n1 c1),.bool ZQ.s,(.slice a2 n2 c2),(.slice a3 n3 c3),.bool ZR.s,(.slice a4 n4 c4),(.slice a5 n5 c5)] 40)
   clear R_0
   have dK:=dB.out.ne 1 0 rfl rfl (by decide)
   have dL:=dB.out.ne 0 1 rfl rfl (by decide)
   have dM:=dB.out.ne 2 0 rfl rfl (by decide)
   have dN:=dB.out.ne 0 2 rfl rfl (by decide)
   have B0:=Hd (show Below wr.heap.size wr (wr.alloc (.cells #[.int .i64 ZA,.int .i64 ZB,.bool ZP.s,(.slice a0 n0 c0),(.slice a1 n1 c1),.bool ZQ.s,(.slice a2 n2 c2),(.slice a3 n3 c3),.bool ZR.s,(.slice a4 n4 c4),(.slice a5 n5 c5)] 40)) from (Below.refl _ _).alloc (Nat.le_refl _) _)
   obtain ⟨oz,hoz⟩ : ∃ z,okK ZA ZB ZP ZQ ZR = z:=⟨_,rfl⟩
   have HOZ:=Hd hoz
   clear hoz
   obtain ⟨bE,bF,bG,bH,bI,bJ,bK,bL,bM,bN,aY⟩:=dB.out.c11 0 rfl
   obtain ⟨aM,aN,aO⟩:=dB.out.c3 1 rfl
   obtain ⟨aP,aQ,aR⟩:=dB.out.c3 2 rfl
   go_wp2_with fail
   clear d0 d1 d2 d3 d4 d5 d6 d7 d8 d9 d10
   refine (isValidLink_i ZA ZB ZP ZQ ZR (.slice a0 n0 c0) (.slice a1 n1 c1) (.slice a2 n2 c2) (.slice a3 n3 c3) (.slice a4 n4 c4) (.slice a5 n5 c5) _ (HR.out.below dB.out.below)).mono ?_
   rintro e w3 ⟨rfl,hb⟩
   have B1:=Hd (B0.out.trans (hb.mono B0.out.size))
   have cL:=Hd (dB.out.call hb)
   clear dB
   clear hb
   rw [HOZ.out]
   by_cases g1_ : oz = true
   ·subst g1_
    clear bE bF bG bH bI bJ bK bL bM bN aY aM aN aO aP aQ aR
    obtain ⟨cM,cN,cO,cP,cQ,cR,cS,cT,cU,cV,cA⟩:=cL.out.c11 0 rfl
    obtain ⟨b0,b1,b2⟩:=cL.out.c3 1 rfl
    obtain ⟨b3,b4,b5⟩:=cL.out.c3 2 rfl
    go_wp2_with fail
    clear cM cN cO cP cQ cR cS cT cU cV cA b0 b1 b2 b3 b4 b5
    obtain ⟨ad,had⟩ : ∃ z,addD (dts ys) ⟨ZA,ZB,ZP,ZQ,ZR⟩ = z:=⟨_,rfl⟩
    have HAD:=Hd had
    clear had
    refine (addTo_f (.slice V ys.length cv) ys ⟨ZA,ZB,ZP,ZQ,ZR,.slice a0 n0 c0,.slice a1 n1 c1,.slice a2 n2 c2,.slice a3 n3 c3,.slice a4 n4 c4,.slice a5 n5 c5⟩ u _ (HG.out.call B1.out) dY.out (okDts_ok (joinD_ok HJ.out)) HOZ.out (HR.out.below cL.out.below)).mono ?_
    rintro e w5 ⟨ho,hT⟩
    rw [show addD (dts ys) (Lr.d ⟨ZA,ZB,ZP,ZQ,ZR,.slice a0 n0 c0,.slice a1 n1 c1,.slice a2 n2 c2,.slice a3 n3 c3,.slice a4 n4 c4,.slice a5 n5 c5⟩) = ad from HAD.out] at ho
    have hvb : ∀ k,(Value.slice V ys.length cv).ownBlock = some k → sb + 1 ≤ k ∧ k < wr.heap.size:=fun k e=>by have h:=HG.out.own.lt k e; rw [HU.out] at h; exact h
    have HT:=Hd hT
    clear hT
    cases ad with
    | none=>
     obtain ⟨rfl,hb5⟩:=ho
     have hbw : Below w.heap.size w w5:=HBU.out.trans (hb5.mono (by have h1:=SZ1.out; have h2:=HU.out; omega))
     have dV:=Hd (show St w w5 [(sb,[.bool X.s,(.slice Ax nx cx),(.slice Bx mx dx)]),(w.heap.size,[.bool false,.slice none 0 0,.slice none 0 0])] [[((.slice Ax nx cx),ints X.xs),((.slice Bx mx dx),ints X.ys)]] from StT (cL.out.dropBox 0) HT.out hbw (fun p hp e=>by have h:=hvb p.1 e; have h2:=SZ1.out; simp only [List.mem_cons,List.not_mem_nil,or_false] at hp; rcases hp with rfl | rfl <;> dsimp only at h <;> omega) (fun l hl q hq=>by simp only [List.mem_singleton] at hl; subst hl; exact HF1.out q hq))
     clear cL
     clear hb5 hbw
     have dC:=Hd (dV.out.alloc [.bool false,.slice none 0 0,.slice none 0 0] 35)
     clear dV
     have cB:=dC.out.ne 1 0 rfl rfl (by decide)
     have cC:=dC.out.ne 0 1 rfl rfl (by decide)
     have cD:=dC.out.ne 2 0 rfl rfl (by decide)
     have cE:=dC.out.ne 0 2 rfl rfl (by decide)
     have BE:=Hd (show Below w5.heap.size w5 (w5.alloc (.cells #[.bool false,.slice none 0 0,.slice none 0 0] 35)) from (Below.refl _ _).alloc (Nat.le_refl _) _)
     obtain ⟨cW,cX,cY⟩:=dC.out.c3 0 rfl
     obtain ⟨b6,bO,b7,bP,b8,bQ⟩:=dC.out.g3 1 rfl
     go_wp2_with fail
     refine (plus_f X Fr.zero (.slice Ax nx cx) (.slice Bx mx dx) (.slice none 0 0) (.slice none 0 0) _ HX.out (.inr rfl) (dC.out.fr 0 0 rfl rfl rfl) (show FrA _ Fr.zero (.slice none 0 0) (.slice none 0 0) from (Owns.nils _ 0 2).fr)).mono ?_
     rintro e w8 ⟨v8,u8,rfl,ho,hb⟩
     obtain ⟨A8,n8,c8,rfl⟩:=(ho.at_ 0 rfl).shape3
     obtain ⟨B8,m8,d8,rfl⟩:=(ho.at_ 1 rfl).shape3
     have dG:=Hd (dC.out.rows ho hb)
     clear dC
     clear ho hb
     clear cW cX cY b6 bO b7 bP b8 bQ
     obtain ⟨cZ,c6,c7⟩:=dG.out.c3 0 rfl
     obtain ⟨aS,aG,aT,aH,aU,aI⟩:=dG.out.g3 1 rfl
     obtain ⟨aV,aW,aX⟩:=dG.out.c3 2 rfl
     have HNO:=Hd (show R = none by rw [← HRR.out]; exact joinD_none (k + 1) (by rw [joinD_succ HD.out,HJ.out]; simp [joinStep,HAD.out,Dt.ok,HOZ.out]))
     clear cZ c6 c7 aS aG aT aH aU aI aV aW aX
     obtain ⟨aV,dD,aW,dE,aX,dF⟩:=dG.out.g3 2 rfl
     obtain ⟨aS,aG,aT,aH,aU,aI⟩:=dG.out.g3 1 rfl
     go_wp2
     have ST:=Hd (dG.out.setAll 1 [.bool (X.add Fr.zero).s,(.slice A8 n8 c8),(.slice B8 m8 d8)] rfl rfl)
     have SR:=Hd (ST.out.setAll 2 [.bool false,.slice none 0 0,.slice none 0 0] rfl rfl)
     obtain ⟨hr0,hr1,hr2⟩:=dG.out.c3 2 rfl
     exact bodyPost_ret (v:=.tuple #[.slice none 0 0,.agg #[.bool false,.slice none 0 0,.slice none 0 0],.bool false]) (by simp [results,Tryz.results20,go_sem,hr0,hr1,hr2]) rfl (OwnSE.nil_ HNO.out SR.out)
    | some ae=>
     obtain ⟨rr,E⟩:=ae
     obtain ⟨v5,y5,e0,e1,rfl,hd5,hg5⟩:=ho
     obtain ⟨Ae,ne,ce,rfl⟩:=(hg5.en.at_ 0 rfl).shape3
     obtain ⟨Be,me,de,rfl⟩:=(hg5.en.at_ 1 rfl).shape3
     have hbw : Below w.heap.size w w5:=HBU.out.trans (hg5.g.below.mono (by have h1:=SZ1.out; have h2:=HU.out; omega))
     have dW:=Hd (show St w w5 [(sb,[.bool X.s,(.slice Ax nx cx),(.slice Bx mx dx)]),(w.heap.size,[.bool false,.slice none 0 0,.slice none 0 0])] [[((.slice Ax nx cx),ints X.xs),((.slice Bx mx dx),ints X.ys)]] from StT (cL.out.dropBox 0) HT.out hbw (fun p hp e=>by have h:=hvb p.1 e; have h2:=SZ1.out; simp only [List.mem_cons,List.not_mem_nil,or_false] at hp; rcases hp with rfl | rfl <;> dsimp only at h <;> omega) (fun l hl q hq=>by simp only [List.mem_singleton] at hl; subst hl; exact HF1.out q hq))
     clear cL
     have G5:=Hd hg5.g
     have EN:=Hd (show Owns w5 u.heap.size [((.slice Ae ne ce),ints E.xs),((.slice Be me de),ints E.ys)] from hg5.en)
     have dZ:=Hd hd5
     have HEG:=Hd (addD_good HAD.out)
     clear hg5 hd5 hbw
     have aZ:=Hd (dW.out.alloc [.bool E.s,(.slice Ae ne ce),(.slice Be me de)] 35)
     clear dW
     have cB:=aZ.out.ne 1 0 rfl rfl (by decide)
     have cC:=aZ.out.ne 0 1 rfl rfl (by decide)
     have cD:=aZ.out.ne 2 0 rfl rfl (by decide)
     have cE:=aZ.out.ne 0 2 rfl rfl (by decide)
     have BE:=Hd (show Below w5.heap.size w5 (w5.alloc (.cells #[.bool E.s,(.slice Ae ne ce),(.slice Be me de)] 35)) from (Below.refl _ _).alloc (Nat.le_refl _) _)
     obtain ⟨cF,cG,cH⟩:=aZ.out.c3 0 rfl
     obtain ⟨bR,a6,bS,a7,bT,a8⟩:=aZ.out.g3 1 rfl
     go_wp2_with fail
     refine (plus_f X E (.slice Ax nx cx) (.slice Bx mx dx) (.slice Ae ne ce) (.slice Be me de) _ HX.out HEG.out (aZ.out.fr 0 0 rfl rfl rfl) (EN.out.fr.below BE.out)).mono ?_
     rintro e w8 ⟨v8,u8,rfl,ho,hb⟩
     obtain ⟨A8,n8,c8,rfl⟩:=(ho.at_ 0 rfl).shape3
     obtain ⟨B8,m8,d8,rfl⟩:=(ho.at_ 1 rfl).shape3
     have F8:=Hd ((G5.out.call BE.out).fresh ho)
     have G8:=Hd ((G5.out.call BE.out).call hb)
     have c9:=Hd (aZ.out.rows ho hb)
     clear aZ
     clear ho hb
     clear cF cG cH bR a6 bS a7 bT a8
     obtain ⟨cI,cJ,cK⟩:=c9.out.c3 0 rfl
     obtain ⟨bU,a9,bV,bA,bW,bB⟩:=c9.out.g3 1 rfl
     obtain ⟨bX,bY,bZ⟩:=c9.out.c3 2 rfl
     go_wp2_with fail
     clear cI cJ cK bU a9 bV bA bW bB bX bY bZ
     have dH:=Hd (show St w (((w8.setCell ⟨sb,0,none⟩ (.bool (X.add E).s)).setCell ⟨sb,1,none⟩ ((.slice A8 n8 c8))).setCell ⟨sb,2,none⟩ ((.slice B8 m8 d8))) [(w5.heap.size,[.bool E.s,(.slice Ae ne ce),(.slice Be me de)]),(sb,[.bool (X.add E).s,(.slice A8 n8 c8),(.slice B8 m8 d8)]),(w.heap.size,[.bool false,.slice none 0 0,.slice none 0 0])] [[((.slice A8 n8 c8),ints (X.add E).xs),((.slice B8 m8 d8),ints (X.add E).ys)],[((.slice Ax nx cx),ints X.xs),((.slice Bx mx dx),ints X.ys)]] from (((c9.out.set 1 0 (.bool (X.add E).s) rfl rfl).set 1 1 ((.slice A8 n8 c8)) rfl rfl).set 1 2 ((.slice B8 m8 d8)) rfl rfl))
     clear c9
     have HSB:=Hd (show sb < u.heap.size by have:=HU.out; omega)
     have G9:=Hd (show LGrow (((u.setCell ⟨sb,0,none⟩ (.bool (X.add E).s)).setCell ⟨sb,1,none⟩ ((.slice A8 n8 c8))).setCell ⟨sb,2,none⟩ ((.slice B8 m8 d8))) (((w8.setCell ⟨sb,0,none⟩ (.bool (X.add E).s)).setCell ⟨sb,1,none⟩ ((.slice A8 n8 c8))).setCell ⟨sb,2,none⟩ ((.slice B8 m8 d8))) v5 y5 from (((G8.out.both (by simpa only [setCell_size] using HSB.out) 0 (.bool (X.add E).s)).both (by simpa only [setCell_size] using HSB.out) 1 ((.slice A8 n8 c8))).both (by simpa only [setCell_size] using HSB.out) 2 ((.slice B8 m8 d8))))
     refine (isValid_f (X.add E) (.slice A8 n8 c8) (.slice B8 m8 d8) _ (dH.out.fr 0 0 rfl rfl rfl)).mono ?_
     rintro e w9 ⟨rfl,hb⟩
     have GA:=Hd (G9.out.call hb)
     have b9:=Hd (dH.out.call hb)
     clear dH
     clear hb
     by_cases hs9 : (X.add E).ok = true
     ·have HJ2:=Hd (show joinD ((dts zs).take (k + 1)) = some (dts y5,X.add E) by rw [joinD_succ HD.out,HJ.out,dZ.out]; simp [joinStep,Dt.ok,HOZ.out,HAD.out,hs9])
      rw [hs9]
      obtain ⟨dO,dP,dQ⟩:=b9.out.c3 0 rfl
      obtain ⟨aJ,aK,aL⟩:=b9.out.c3 1 rfl
      obtain ⟨aA,aB,aC⟩:=b9.out.c3 2 rfl
      go_wp2
      exact ⟨⟨k + 1,y5,X.add E,_,_,(((u.setCell ⟨sb,0,none⟩ (.bool (X.add E).s)).setCell ⟨sb,1,none⟩ ((.slice A8 n8 c8))).setCell ⟨sb,2,none⟩ ((.slice B8 m8 d8))),by omega,by first | rfl | go_num,by simp only [setCell_size]; exact HU.out,((HBU.out.setCell (Nat.le_of_lt SZ1.out) _).setCell (Nat.le_of_lt SZ1.out) _).setCell (Nat.le_of_lt SZ1.out) _,GA.out,HJ2.out,.inl hs9,(b9.out.drop 1).dropBox 0,F8.out.1,F8.out.2⟩,by simp [intOf]; omega⟩
     ·rw [Bool.not_eq_true] at hs9
      have HNO:=Hd (show R = none by rw [← HRR.out]; exact joinD_none (k + 1) (by rw [joinD_succ HD.out,HJ.out]; simp [joinStep,HAD.out,Dt.ok,HOZ.out,hs9]))
      rw [hs9]
      obtain ⟨aA,aD,aB,aE,aC,aF⟩:=b9.out.g3 2 rfl
      go_wp2
      have SR:=Hd (b9.out.setAll 2 [.bool false,.slice none 0 0,.slice none 0 0] rfl rfl)
      obtain ⟨hr0,hr1,hr2⟩:=b9.out.c3 2 rfl
      exact bodyPost_ret (v:=.tuple #[.slice none 0 0,.agg #[.bool false,.slice none 0 0,.slice none 0 0],.bool false]) (by simp [results,Tryz.results20,go_sem,hr0,hr1,hr2]) rfl (OwnSE.nil_ HNO.out SR.out)
   ·rw [Bool.not_eq_true] at g1_
    subst g1_
    have HNO:=Hd (show R = none by rw [← HRR.out]; exact joinD_none (k + 1) (by rw [joinD_succ HD.out,HJ.out]; simp [joinStep,Dt.ok,HOZ.out]))
    clear bE bF bG bH bI bJ bK bL bM bN aY aM aN aO aP aQ aR
    obtain ⟨aA,aD,aB,aE,aC,aF⟩:=cL.out.g3 2 rfl
    go_wp2
    have SR:=Hd (cL.out.setAll 2 [.bool false,.slice none 0 0,.slice none 0 0] rfl rfl)
    obtain ⟨hr0,hr1,hr2⟩:=cL.out.c3 2 rfl
    exact bodyPost_ret (v:=.tuple #[.slice none 0 0,.agg #[.bool false,.slice none 0 0,.slice none 0 0],.bool false]) (by simp [results,Tryz.results20,go_sem,hr0,hr1,hr2]) rfl (OwnSE.nil_ HNO.out SR.out)
  ·obtain rfl : k = n:=by omega
   have hl : (dts zs).take k = dts zs:=List.take_of_length_le (by rw [HL.out]; exact Nat.le_refl _)
   have HJ2:=Hd (show joinD (dts zs) = some (dts ys,X) by rw [← hl]; exact HJ.out)
   clear hl
   have eA:=Hd (show R = some (dts ys,X) from HRR.out.symm.trans HJ2.out)
   obtain ⟨aJ,aK,aL⟩:=R_0.out.c3 0 rfl
   obtain ⟨aA,aD,aB,aE,aC,aF⟩:=R_0.out.g3 1 rfl
   go_upto_region 14 with fail
   clear aJ aK aL aA aD aB aE aC aF
   have dA : ∀ (w' : World) (x0_ : List Value) (bs' : List (Nat × List Value)) (cs' : List Chunk),St w w' ((sb,[.bool X.s,(.slice Ax nx cx),(.slice Bx mx dx)]) :: (w.heap.size,x0_) :: bs') cs' → w'.cell? ⟨sb,0,none⟩ = some (.bool X.s) ∧ w'.cell? ⟨sb,1,none⟩ = some ((.slice Ax nx cx)) ∧ w'.cell? ⟨sb,2,none⟩ = some ((.slice Bx mx dx)):=fun w' x0_ bs' cs' h=>(h.c3 0 rfl)
   refine wp_region_noPanic ?_
   refine wp_region_held_drew (S:=(fun w' =>w'.cell? ⟨sb,0,none⟩ = some (.bool X.s) ∧ w'.cell? ⟨sb,1,none⟩ = some ((.slice Ax nx cx)) ∧ w'.cell? ⟨sb,2,none⟩ = some ((.slice Bx mx dx)))) (by kernel_rfl) ?_ (fun dX=>?_)
   ·exact dA _ _ _ _ R_0.out.drew
   refine tI 0 rfl ?_ ?_ ?_
   rotate_left
   ·intro w9 dI; (try dsimp only at dI); go_simp; try with_reducible rfl
   try simp only [pm,s0,sS]
   refine tI 1 rfl ?_ ?_ ?_
   rotate_left
   ·intro w9 dI; (try dsimp only at dI); go_simp; try with_reducible rfl
   try simp only [pm,s0,sS]
   refine tI 2 rfl ?_ ?_ ?_
   rotate_left
   ·intro w9 dI; (try dsimp only at dI); go_simp; try with_reducible rfl
   try simp only [pm,s0,sS]
   refine wpAnyH_ready (rs:=[3]) (by kernel_rfl) (by simp) ?_
   refine ac rfl (fun K hK=>?_) AllReadyH.nil
   rw [if_pos (by rfl)]
   refine wp_store_mid _ _ _ rfl _ _ (List.toArray [.bool X.s,(.slice Ax nx cx),(.slice Bx mx dx)]) rfl rfl (R_0.out.drew.there_ 1 rfl rfl) (size_rat) (all_oneCell_toArray (cs:=[.bool X.s,(.slice Ax nx cx),(.slice Bx mx dx)]) (List.all_eq_true.mp rfl)) ?_
   simp only [Act.put]
   have dJ:=Hd (R_0.out.drew.setKit 1 [.bool X.s,(.slice Ax nx cx),(.slice Bx mx dx)] rfl rfl)
   clear R_0
   refine hK.out _ _ (dA _ _ _ _ dJ.out) (fun dT=>?_)
   clear hK K
   try simp only [pm,s0,sS]
   refine tI 4 rfl ?_ ?_ ?_
   rotate_left
   ·intro w9 dI; (try dsimp only at dI); go_simp; try with_reducible rfl
   try simp only [pm,s0,sS]
   refine wpAnyH_done (by kernel_rfl) ?_ _
   refine NoPanic.normal ?_
   have GZ:=Hd (show LGrow w (World.setCells wr.drew (w.heap.size) 0 [.bool X.s,(.slice Ax nx cx),(.slice Bx mx dx)]) (.slice V ys.length cv) ys from (by rw [setCells_kit]; exact (HG.out.drew.bothAll _ (by have h1:=SZ1.out; have h2:=HU.out; omega) 0).based (below_setCells _ _ (Nat.le_refl _) HBU.out)))
   obtain ⟨hr0,hr1,hr2⟩:=dJ.out.c3 1 rfl
   go_wp2
   exact bodyPost_ret (v:=.tuple #[.slice V ys.length cv,.agg #[.bool X.s,(.slice Ax nx cx),(.slice Bx mx dx)],.bool true]) (by simp [results,Tryz.results20,go_sem,hr0,hr1,hr2]) rfl (by rw [eA.out]; exact ⟨_,ys,_,_,rfl,rfl,⟨GZ.out,dJ.out.own 0 rfl,HF2.out,HF1.out⟩⟩)
end Go.Proofs.YtodoiekbjjiocaaGreat
