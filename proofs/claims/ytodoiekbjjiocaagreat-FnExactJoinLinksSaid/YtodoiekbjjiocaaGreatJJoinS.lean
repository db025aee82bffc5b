/- JoinLinks of the model. Conditions: none. -/
import Derived.Test.YtodoiekbjjiocaaGreatJPk
import Derived.Test.YtodoiekbjjiocaaGreatJJoinT
import Derived.Test.YtodoiekbjjiocaaGreatJHand
import Derived.Test.YtodoiekbjjiocaaGreatJAddLinkS
namespace Go.Proofs.YtodoiekbjjiocaaGreat
open Go.RowKit Nt Fr
set_option linter.unusedVariables false
set_option maxRecDepth 100000 in
set_option maxHeartbeats 40000000 in
theorem joinLinks_s (A : Option Addr) (n c : Nat) (zs : List Lr) (w : World) (hA : LArg w A n zs) (hn : n ≤ 1048576) :
 Calls Tryz.prog 19 #[.slice A n c] w (OwnSE (jlAns zs) w):=by
 have HA:=Hd hA
 have HL:=Hd (show (dts zs).length = n by rw [dts_len]; exact hA.row.1)
 obtain ⟨R,hR⟩ : ∃ z,jlAns zs = z:=⟨_,rfl⟩
 have HRR:=Hd (show jsel (joinS (dts zs)) = R from (joinD_eq _).symm.trans hR)
 rw [hR]
 clear hA hR
 have cU:=Hd (St.start1 w [.bool false,.slice none 0 0,.slice none 0 0] 35)
 go_enter Tryz.func19,Tryz.ntmps19
 go_wp2_with fail
 have cV:=Hd (cU.out.call (show Below _ _ _ from (Below.refl _ _).alloc (Nat.le_refl _) (.cells #[] 40)))
 clear cU
 have G_m:=Hd (show LGrow w ((w.alloc (.cells #[.bool false,.slice none 0 0,.slice none 0 0] 35)).alloc (.cells #[] 40)) (.slice (some ⟨w.heap.size + 1,0,none⟩) 0 0) [] from by have h:=LGrow.made (w0:=w) (w:=(w.alloc (.cells #[.bool false,.slice none 0 0,.slice none 0 0] 35))) ((Below.refl _ _).alloc (Nat.le_refl _) _); rw [show ((w.alloc (.cells #[.bool false,.slice none 0 0,.slice none 0 0] 35))).heap.size = w.heap.size + 1 by simp] at h; exact h)
 refine (ratFromInt_s 0 _ (by decide)).mono ?_
 rintro e w2 ⟨v0,u0,rfl,ho,hb⟩
 obtain ⟨A0,n0,c0,rfl⟩:=(ho.at_ 0 rfl).shape3
 obtain ⟨B0,m0,d0,rfl⟩:=(ho.at_ 1 rfl).shape3
 have G_0:=Hd (G_m.out.call hb)
 have F_0:=Hd (G_m.out.fresh ho)
 have cR:=Hd (cV.out.rows ho hb)
 clear cV
 clear ho hb
 have hltr:=cR.out.lt 0 rfl
 have cQ:=Hd (cR.out.alloc [.bool (Fr.of 0).s,(.slice A0 n0 c0),(.slice B0 m0 d0)] 35)
 clear cR
 have aK:=cQ.out.ne 1 0 rfl rfl (by decide)
 have aL:=cQ.out.ne 0 1 rfl rfl (by decide)
 obtain ⟨sb,hsb⟩ : ∃ u,w2.heap.size = u:=⟨_,rfl⟩
 rw [hsb] at cQ hltr
 have HSB0:=Hd hsb
 have SZ1:=Hd hltr
 clear hsb hltr aK aL
 go_wp2
 rw [HSB0.out]
 have SX:=Hd cQ.out
 have AP_0:=Hd (show Apart _ [] sb from ⟨fun e=>by have h:=(G_0.out.own.lt _ e).2; rw [HSB0.out] at h; omega,fun q hq=>by cases hq⟩)
 have AP_1:=Hd (show Apart (.slice (some ⟨w.heap.size + 1,0,none⟩) 0 0) [] w.heap.size from ⟨fun e=>by simp [Value.ownBlock] at e,fun q hq=>by cases hq⟩)
 go_loopw [5,16] (fun v i wr=>∃ (k : Nat) (ys : List Lr) (X : Fr) (x0 x1 : Value),k ≤ n ∧ i = .int .i64 k ∧ LGrow w wr v ys ∧ Apart v ys sb ∧ Apart v ys w.heap.size ∧ joinS ((dts zs).take k) = some (dts ys,X) ∧ X.Good ∧ St w wr [(sb,[.bool X.s,x0,x1]),(w.heap.size,[.bool false,.slice none 0 0,.slice none 0 0])] [[(x0,ints X.xs),(x1,ints X.ys)]] ∧ (∀ q ∈ [(x0,ints X.xs),(x1,ints X.ys)],Far v.ownBlock q.1.ownBlock) ∧ FarL (rowsL ys) [(x0,ints X.xs),(x1,ints X.ys)]) (fun _ i _=>n - (intOf i).toNat)
 case atStart=>exact ⟨0,[],Fr.of 0,_,_,Nat.zero_le _,rfl,G_0.out.alloc _,AP_0.out,AP_1.out,rfl,of0_good,SX.out,F_0.out.1,(fun p hp=>by cases hp)⟩
 case round=>
  obtain ⟨k,ys,X,x0,x1,hk,rfl,hg,hap1,hap2,hj,hX,hst,hf1,hf2⟩:=hrel
  have HP1:=Hd hap1
  have HP2:=Hd hap2
  have HG:=Hd hg
  have HJ:=Hd hj
  have HX:=Hd hX
  obtain ⟨Ax,nx,cx,rfl⟩:=((hst.own 0 rfl).at_ 0 rfl).shape3
  obtain ⟨Bx,mx,dx,rfl⟩:=((hst.own 0 rfl).at_ 1 rfl).shape3
  have HF1:=Hd hf1
  have HF2:=Hd hf2
  have R_0:=Hd hst
  clear hap1 hap2 hg hj hX hf1 hf2 hst SX
  obtain ⟨V,cv,rfl,hva⟩:=larg_grow HG.out
  have HVA:=Hd hva
  clear hva
  have hnsr : sb ≠ w.heap.size:=by have:=SZ1.out; omega
  have hnrs : w.heap.size ≠ sb:=by have:=SZ1.out; omega
  by_cases hlt : k < n
  ·obtain ⟨g1,o1,z,rfl,hg1,hz,hr,hc⟩:=HA.out.at_ hlt
   obtain ⟨ZA,ZB,ZP,ZQ,ZR,a0,n0,c0,a1,n1,c1,a2,n2,c2,a3,n3,c3,a4,n4,c4,a5,n5,c5,rfl⟩:=LArg.shapes hr
   have HD:=Hd (show (dts zs)[k]? = some ⟨ZA,ZB,ZP,ZQ,ZR⟩ from dts_at hz)
   have HR:=Hd hr
   have hi0 : (0 : Int) ≤ (k : Int):=by omega
   have hi1 : (k : Int) < (n : Int):=by omega
   have d0 : wr.cell? ⟨g1,o1 + k * 11,none⟩ = some (.int .i64 ZA):=(R_0.out.below.cell (p:=⟨g1,o1 + k * 11,none⟩) hg1).trans (hc 0 _ rfl)
   have d1 : wr.cell? ⟨g1,o1 + k * 11 + 1,none⟩ = some (.int .i64 ZB):=(R_0.out.below.cell (p:=⟨g1,o1 + k * 11 + 1,none⟩) hg1).trans (hc 1 _ rfl)
   have d2 : wr.cell? ⟨g1,o1 + k * 11 + 2,none⟩ = some (.bool ZP.s):=(R_0.out.below.cell (p:=⟨g1,o1 + k * 11 + 2,none⟩) hg1).trans (hc 2 _ rfl)
   have d3 : wr.cell? ⟨g1,o1 + k * 11 + 3,none⟩ = some ((.slice a0 n0 c0)):=(R_0.out.below.cell (p:=⟨g1,o1 + k * 11 + 3,none⟩) hg1).trans (hc 3 _ rfl)
   have d4 : wr.cell? ⟨g1,o1 + k * 11 + 4,none⟩ = some ((.slice a1 n1 c1)):=(R_0.out.below.cell (p:=⟨g1,o1 + k * 11 + 4,none⟩) hg1).trans (hc 4 _ rfl)
   have d5 : wr.cell? ⟨g1,o1 + k * 11 + 5,none⟩ = some (.bool ZQ.s):=(R_0.out.below.cell (p:=⟨g1,o1 + k * 11 + 5,none⟩) hg1).trans (hc 5 _ rfl)
   have d6 : wr.cell? ⟨g1,o1 + k * 11 + 6,none⟩ = some ((.slice a2 n2 c2)):=(R_0.out.below.cell (p:=⟨g1,o1 + k * 11 + 6,none⟩) hg1).trans (hc 6 _ rfl)
   have d7 : wr.cell? ⟨g1,o1 + k * 11 + 7,none⟩ = some ((.slice a3 n3 c3)):=(R_0.out.below.cell (p:=⟨g1,o1 + k * 11 + 7,none⟩) hg1).trans (hc 7 _ rfl)
   have d8 : wr.cell? ⟨g1,o1 + k * 11 + 8,none⟩ = some (.bool ZR.s):=(R_0.out.below.cell (p:=⟨g1,o1 + k * 11 + 8,none⟩) hg1).trans (hc 8 _ rfl)
   have d9 : wr.cell? ⟨g1,o1 + k * 11 + 9,none⟩ = some ((.slice a4 n4 c4)):=(R_0.out.below.cell (p:=⟨g1,o1 + k * 11 + 9,none⟩) hg1).trans (hc 9 _ rfl)
   have d10 : wr.cell? ⟨g1,o1 + k * 11 + 10,none⟩ = some ((.slice a5 n5 c5)):=(R_0.out.below.cell (p:=⟨g1,o1 + k * 11 + 10,none⟩) hg1).trans (hc 10 _ rfl)
   clear hz hc hr
   have cZ:=Hd (show ys.length ≤ 1048576 from by have h:=okDts_len (joinS_ok HJ.out); rw [dts_len] at h; omega)
   have a7:=Hd (R_0.out.alloc [.int .i64 ZA,.int .i64 ZB,.bool ZP.s,(.slice a0 n0 c0),(.slice a1 n1 c1),.bool ZQ.s,(.slice a2 n2 c2),(.slice a3 n3 c3),.bool ZR.s,(.slice a4 n4 c4),(.slice a5 n5 c5)] 40)
   clear R_0
   have cM:=a7.out.ne 1 0 rfl rfl (by decide)
   have cN:=a7.out.ne 0 1 rfl rfl (by decide)
   have cO:=a7.out.ne 2 0 rfl rfl (by decide)
   have cP:=a7.out.ne 0 2 rfl rfl (by decide)
   have B0:=Hd (show Below wr.heap.size wr (wr.alloc (.cells #[.int .i64 ZA,.int .i64 ZB,.bool ZP.s,(.slice a0 n0 c0),(.slice a1 n1 c1),.bool ZQ.s,(.slice a2 n2 c2),(.slice a3 n3 c3),.bool ZR.s,(.slice a4 n4 c4),(.slice a5 n5 c5)] 40)) from (Below.refl _ _).alloc (Nat.le_refl _) _)
   obtain ⟨oz,hoz⟩ : ∃ z,okK ZA ZB ZP ZQ ZR = z:=⟨_,rfl⟩
   have HOZ:=Hd hoz
   clear hoz
   obtain ⟨bP,bQ,bR,bS,bT,bU,bV,bW,bX,bY,bH⟩:=a7.out.c11 0 rfl
   obtain ⟨a8,a9,bA⟩:=a7.out.c3 1 rfl
   obtain ⟨bB,bC,bD⟩:=a7.out.c3 2 rfl
   go_wp2_with fail
   clear d0 d1 d2 d3 d4 d5 d6 d7 d8 d9 d10
   clear bP bQ bR bS bT bU bV bW bX bY bH a8 a9 bA bB bC bD
   obtain ⟨ad,had⟩ : ∃ z,alAns (okSet ys && okK ZA ZB ZP ZQ ZR) (dts ys) ⟨ZA,ZB,ZP,ZQ,ZR⟩ = z:=⟨_,rfl⟩
   have HAD:=Hd had
   clear had
   obtain ⟨wa,hwa⟩ : ∃ z,(wr.alloc (.cells #[.int .i64 ZA,.int .i64 ZB,.bool ZP.s,(.slice a0 n0 c0),(.slice a1 n1 c1),.bool ZQ.s,(.slice a2 n2 c2),(.slice a3 n3 c3),.bool ZR.s,(.slice a4 n4 c4),(.slice a5 n5 c5)] 40)) = z:=⟨_,rfl⟩
   rw [hwa] at a7 B0 ⊢
   clear hwa
   refine (addLink_s V ys.length cv ys ⟨ZA,ZB,ZP,ZQ,ZR,.slice a0 n0 c0,.slice a1 n1 c1,.slice a2 n2 c2,.slice a3 n3 c3,.slice a4 n4 c4,.slice a5 n5 c5⟩ _ (HVA.out.below B0.out) cZ.out (HR.out.below a7.out.below)).mono ?_
   rintro e w5 ho
   rw [show alAns (okSet ys && okK (Lr.A ⟨ZA,ZB,ZP,ZQ,ZR,.slice a0 n0 c0,.slice a1 n1 c1,.slice a2 n2 c2,.slice a3 n3 c3,.slice a4 n4 c4,.slice a5 n5 c5⟩) (Lr.B ⟨ZA,ZB,ZP,ZQ,ZR,.slice a0 n0 c0,.slice a1 n1 c1,.slice a2 n2 c2,.slice a3 n3 c3,.slice a4 n4 c4,.slice a5 n5 c5⟩) (Lr.P ⟨ZA,ZB,ZP,ZQ,ZR,.slice a0 n0 c0,.slice a1 n1 c1,.slice a2 n2 c2,.slice a3 n3 c3,.slice a4 n4 c4,.slice a5 n5 c5⟩) (Lr.Q ⟨ZA,ZB,ZP,ZQ,ZR,.slice a0 n0 c0,.slice a1 n1 c1,.slice a2 n2 c2,.slice a3 n3 c3,.slice a4 n4 c4,.slice a5 n5 c5⟩) (Lr.R ⟨ZA,ZB,ZP,ZQ,ZR,.slice a0 n0 c0,.slice a1 n1 c1,.slice a2 n2 c2,.slice a3 n3 c3,.slice a4 n4 c4,.slice a5 n5 c5⟩)) (dts ys) (Lr.d ⟨ZA,ZB,ZP,ZQ,ZR,.slice a0 n0 c0,.slice a1 n1 c1,.slice a2 n2 c2,.slice a3 n3 c3,.slice a4 n4 c4,.slice a5 n5 c5⟩) = ad from HAD.out] at ho
   cases ad with
   | none=>
    obtain ⟨rfl,hb5⟩:=ho
    have cW:=Hd (show St w w5 [(wr.heap.size,[.int .i64 ZA,.int .i64 ZB,.bool ZP.s,(.slice a0 n0 c0),(.slice a1 n1 c1),.bool ZQ.s,(.slice a2 n2 c2),(.slice a3 n3 c3),.bool ZR.s,(.slice a4 n4 c4),(.slice a5 n5 c5)]),(sb,[.bool X.s,(.slice Ax nx cx),(.slice Bx mx dx)]),(w.heap.size,[.bool false,.slice none 0 0,.slice none 0 0])] [[((.slice Ax nx cx),ints X.xs),((.slice Bx mx dx),ints X.ys)]] from a7.out.call hb5)
    clear a7
    clear hb5
    have HNO:=Hd (show R = none by rw [← HRR.out,joinS_none (k + 1) (by rw [joinS_succ HD.out,HJ.out]; exact alNone (x:=⟨ZA,ZB,ZP,ZQ,ZR⟩) (joinS_ok HJ.out) HAD.out)]; rfl)
    have b5:=Hd (cW.out.alloc [.bool false,.slice none 0 0,.slice none 0 0] 35)
    clear cW
    have b6:=b5.out.ne 1 0 rfl rfl (by decide)
    have b7:=b5.out.ne 0 1 rfl rfl (by decide)
    have bI:=b5.out.ne 2 0 rfl rfl (by decide)
    have bJ:=b5.out.ne 0 2 rfl rfl (by decide)
    have bK:=b5.out.ne 3 0 rfl rfl (by decide)
    have bL:=b5.out.ne 0 3 rfl rfl (by decide)
    obtain ⟨cH,cB,cI,cC,cJ,cD⟩:=b5.out.g3 3 rfl
    go_wp2
    have SR:=Hd (b5.out.setAll 3 [.bool false,.slice none 0 0,.slice none 0 0] rfl rfl)
    obtain ⟨hr0,hr1,hr2⟩:=b5.out.c3 3 rfl
    exact bodyPost_ret (v:=.tuple #[.slice none 0 0,.agg #[.bool false,.slice none 0 0,.slice none 0 0],.bool false]) (by simp [results,Tryz.results19,go_sem,hr0,hr1,hr2]) rfl (OwnSE.nil_ HNO.out SR.out)
   | some ae=>
    obtain ⟨rr,E⟩:=ae
    obtain ⟨v5,y5,e0,e1,rfl,hd5,hg5⟩:=ho
    obtain ⟨Ae,ne,ce,rfl⟩:=(hg5.en.at_ 0 rfl).shape3
    obtain ⟨Be,me,de,rfl⟩:=(hg5.en.at_ 1 rfl).shape3
    have hlts:=a7.out.lt 1 rfl
    have hltr:=a7.out.lt 2 rfl
    have HBA:=Hd a7.out.below
    have cX:=Hd (show St w w5 [(wr.heap.size,[.int .i64 ZA,.int .i64 ZB,.bool ZP.s,(.slice a0 n0 c0),(.slice a1 n1 c1),.bool ZQ.s,(.slice a2 n2 c2),(.slice a3 n3 c3),.bool ZR.s,(.slice a4 n4 c4),(.slice a5 n5 c5)]),(sb,[.bool X.s,(.slice Ax nx cx),(.slice Bx mx dx)]),(w.heap.size,[.bool false,.slice none 0 0,.slice none 0 0])] [[((.slice Ax nx cx),ints X.xs),((.slice Bx mx dx),ints X.ys)]] from a7.out.call hg5.g.below)
    clear a7
    have G5:=Hd hg5.g
    have EN:=Hd (show Owns w5 wa.heap.size [((.slice Ae ne ce),ints E.xs),((.slice Be me de),ints E.ys)] from hg5.en)
    have c6:=Hd hd5
    clear hg5 hd5
    have bZ:=Hd (cX.out.alloc [.bool E.s,(.slice Ae ne ce),(.slice Be me de)] 35)
    clear cX
    have b6:=bZ.out.ne 1 0 rfl rfl (by decide)
    have b7:=bZ.out.ne 0 1 rfl rfl (by decide)
    have bI:=bZ.out.ne 2 0 rfl rfl (by decide)
    have bJ:=bZ.out.ne 0 2 rfl rfl (by decide)
    have bK:=bZ.out.ne 3 0 rfl rfl (by decide)
    have bL:=bZ.out.ne 0 3 rfl rfl (by decide)
    have BE:=Hd (show Below w5.heap.size w5 (w5.alloc (.cells #[.bool E.s,(.slice Ae ne ce),(.slice Be me de)] 35)) from (Below.refl _ _).alloc (Nat.le_refl _) _)
    have HAE:=Hd (alSome (x:=⟨ZA,ZB,ZP,ZQ,ZR⟩) (s:=X) (joinS_ok HJ.out) HAD.out)
    obtain ⟨b0,b1,b2⟩:=bZ.out.c3 0 rfl
    obtain ⟨bE,aM,bF,aN,bG,aO⟩:=bZ.out.g3 2 rfl
    go_wp2_with fail
    refine (ratAdd_s X E (.slice Ax nx cx) (.slice Bx mx dx) (.slice Ae ne ce) (.slice Be me de) _ (bZ.out.fr 0 0 rfl rfl rfl) (EN.out.fr.below BE.out)).mono ?_
    rintro e w8 ⟨v8,u8,rfl,ho,hb⟩
    obtain ⟨A8,n8,c8,rfl⟩:=(ho.at_ 0 rfl).shape3
    obtain ⟨B8,m8,d8,rfl⟩:=(ho.at_ 1 rfl).shape3
    have F8:=Hd ((G5.out.call BE.out).fresh ho)
    have G8:=Hd ((G5.out.call BE.out).call hb)
    have b3:=Hd (bZ.out.rows ho hb)
    clear bZ
    clear ho hb
    clear b0 b1 b2 bE aM bF aN bG aO
    obtain ⟨bM,bN,bO⟩:=b3.out.c3 0 rfl
    obtain ⟨aP,aD,aQ,aE,aR,aF⟩:=b3.out.g3 2 rfl
    obtain ⟨aS,aT,aU⟩:=b3.out.c3 3 rfl
    go_wp2
    clear bM bN bO aP aD aQ aE aR aF aS aT aU
    have cS:=Hd (show St w (((w8.setCell ⟨sb,0,none⟩ (.bool (X.add E).s)).setCell ⟨sb,1,none⟩ ((.slice A8 n8 c8))).setCell ⟨sb,2,none⟩ ((.slice B8 m8 d8))) [(w5.heap.size,[.bool E.s,(.slice Ae ne ce),(.slice Be me de)]),(wr.heap.size,[.int .i64 ZA,.int .i64 ZB,.bool ZP.s,(.slice a0 n0 c0),(.slice a1 n1 c1),.bool ZQ.s,(.slice a2 n2 c2),(.slice a3 n3 c3),.bool ZR.s,(.slice a4 n4 c4),(.slice a5 n5 c5)]),(sb,[.bool (X.add E).s,(.slice A8 n8 c8),(.slice B8 m8 d8)]),(w.heap.size,[.bool false,.slice none 0 0,.slice none 0 0])] [[((.slice A8 n8 c8),ints (X.add E).xs),((.slice B8 m8 d8),ints (X.add E).ys)],[((.slice Ax nx cx),ints X.xs),((.slice Bx mx dx),ints X.ys)]] from (((b3.out.set 2 0 (.bool (X.add E).s) rfl rfl).set 2 1 ((.slice A8 n8 c8)) rfl rfl).set 2 2 ((.slice B8 m8 d8)) rfl rfl))
    clear b3
    have GB:=Hd (G8.out.based HBA.out)
    have AP1:=Hd (G8.out.beneath hlts)
    have AP2:=Hd (G8.out.beneath hltr)
    have GA:=Hd (show LGrow w (((w8.setCell ⟨sb,0,none⟩ (.bool (X.add E).s)).setCell ⟨sb,1,none⟩ ((.slice A8 n8 c8))).setCell ⟨sb,2,none⟩ ((.slice B8 m8 d8))) v5 y5 from (((GB.out.setC (Nat.le_of_lt SZ1.out) AP1.out 0 (.bool (X.add E).s)).setC (Nat.le_of_lt SZ1.out) AP1.out 1 ((.slice A8 n8 c8))).setC (Nat.le_of_lt SZ1.out) AP1.out 2 ((.slice B8 m8 d8))))
    have HJ2:=Hd (show joinS ((dts zs).take (k + 1)) = some (dts y5,X.add E) by rw [joinS_succ HD.out,HJ.out,c6.out]; exact HAE.out)
    exact ⟨⟨k + 1,y5,X.add E,_,_,by omega,by first | rfl | go_num,GA.out,AP1.out,AP2.out,HJ2.out,good_add _ _,(((cS.out.drop 1).dropBox 1).dropBox 0),F8.out.1,F8.out.2⟩,by simp [intOf]; omega⟩
  ·obtain rfl : k = n:=by omega
   have hl : (dts zs).take k = dts zs:=List.take_of_length_le (by rw [HL.out]; exact Nat.le_refl _)
   have HJ2:=Hd (show joinS (dts zs) = some (dts ys,X) by rw [← hl]; exact HJ.out)
   clear hl
   obtain ⟨aA,aB,aC⟩:=R_0.out.c3 0 rfl
   go_wp2_with fail
   refine (ratOk_s X (.slice Ax nx cx) (.slice Bx mx dx) _ (R_0.out.fr 0 0 rfl rfl rfl)).mono ?_
   rintro e w9 ⟨rfl,hb⟩
   have HG9:=Hd (HG.out.call hb)
   have aG:=Hd (R_0.out.call hb)
   clear R_0
   clear hb
   by_cases h5 : X.ok = true
   ·have c7:=Hd (show R = some (dts ys,X) by rw [← HRR.out,HJ2.out]; simp [jsel,h5])
    rw [h5]
    clear h5 HG
    have HG:=Hd HG9.out
    clear HG9
    clear aA aB aC
    obtain ⟨aV,aW,aX⟩:=aG.out.c3 0 rfl
    obtain ⟨aY,aH,aZ,aI,a6,aJ⟩:=aG.out.g3 1 rfl
    go_upto_region 14 with fail
    clear aV aW aX aY aH aZ aI a6 aJ
    have b4 : ∀ (w' : World) (x0_ : List Value) (bs' : List (Nat × List Value)) (cs' : List Chunk),St w w' ((sb,[.bool X.s,(.slice Ax nx cx),(.slice Bx mx dx)]) :: (w.heap.size,x0_) :: bs') cs' → w'.cell? ⟨sb,0,none⟩ = some (.bool X.s) ∧ w'.cell? ⟨sb,1,none⟩ = some ((.slice Ax nx cx)) ∧ w'.cell? ⟨sb,2,none⟩ = some ((.slice Bx mx dx)):=fun w' x0_ bs' cs' h=>(h.c3 0 rfl)
    refine wp_region_noPanic ?_
    refine wp_region_held_drew (S:=(fun w' =>w'.cell? ⟨sb,0,none⟩ = some (.bool X.s) ∧ w'.cell? ⟨sb,1,none⟩ = some ((.slice Ax nx cx)) ∧ w'.cell? ⟨sb,2,none⟩ = some ((.slice Bx mx dx)))) (by kernel_rfl) ?_ (fun cY=>?_)
    ·exact b4 _ _ _ _ aG.out.drew
    refine tI 0 rfl ?_ ?_ ?_
    rotate_left
    ·intro w9 cK; (try dsimp only at cK); go_simp; try with_reducible rfl
    try simp only [pm,s0,sS]
    refine tI 1 rfl ?_ ?_ ?_
    rotate_left
    ·intro w9 cK; (try dsimp only at cK); go_simp; try with_reducible rfl
    try simp only [pm,s0,sS]
    refine tI 2 rfl ?_ ?_ ?_
    rotate_left
    ·intro w9 cK; (try dsimp only at cK); go_simp; try with_reducible rfl
    try simp only [pm,s0,sS]
    refine wpAnyH_ready (rs:=[3]) (by kernel_rfl) (by simp) ?_
    refine ac rfl (fun K hK=>?_) AllReadyH.nil
    rw [if_pos (by rfl)]
    refine wp_store_mid _ _ _ rfl _ _ (List.toArray [.bool X.s,(.slice Ax nx cx),(.slice Bx mx dx)]) rfl rfl (aG.out.drew.there_ 1 rfl rfl) (size_rat) (all_oneCell_toArray (cs:=[.bool X.s,(.slice Ax nx cx),(.slice Bx mx dx)]) (List.all_eq_true.mp rfl)) ?_
    simp only [Act.put]
    have cL:=Hd (aG.out.drew.setKit 1 [.bool X.s,(.slice Ax nx cx),(.slice Bx mx dx)] rfl rfl)
    clear aG
    refine hK.out _ _ (b4 _ _ _ _ cL.out) (fun cT=>?_)
    clear hK K
    try simp only [pm,s0,sS]
    refine tI 4 rfl ?_ ?_ ?_
    rotate_left
    ·intro w9 cK; (try dsimp only at cK); go_simp; try with_reducible rfl
    try simp only [pm,s0,sS]
    refine wpAnyH_done (by kernel_rfl) ?_ _
    refine NoPanic.normal ?_
    have GZ:=Hd (show LGrow w (World.setCells w9.drew (w.heap.size) 0 [.bool X.s,(.slice Ax nx cx),(.slice Bx mx dx)]) (.slice V ys.length cv) ys from (by rw [setCells_kit]; exact HG.out.drew.stored (Nat.le_refl _) HP2.out.1 HP2.out.2 0 _))
    obtain ⟨hr0,hr1,hr2⟩:=cL.out.c3 1 rfl
    go_wp2
    exact bodyPost_ret (v:=.tuple #[.slice V ys.length cv,.agg #[.bool X.s,(.slice Ax nx cx),(.slice Bx mx dx)],.bool true]) (by simp [results,Tryz.results19,go_sem,hr0,hr1,hr2]) rfl (by rw [c7.out]; exact ⟨_,ys,_,_,rfl,rfl,⟨GZ.out,cL.out.own 0 rfl,HF2.out,HF1.out⟩⟩)
   ·rw [Bool.not_eq_true] at h5
    have HNO:=Hd (show R = none by rw [← HRR.out,HJ2.out]; simp [jsel,h5])
    rw [h5]
    clear h5
    clear aA aB aC
    obtain ⟨cE,b8,cF,b9,cG,cA⟩:=aG.out.g3 1 rfl
    go_wp2
    have SR:=Hd (aG.out.setAll 1 [.bool false,.slice none 0 0,.slice none 0 0] rfl rfl)
    obtain ⟨hr0,hr1,hr2⟩:=aG.out.c3 1 rfl
    exact bodyPost_ret (v:=.tuple #[.slice none 0 0,.agg #[.bool false,.slice none 0 0,.slice none 0 0],.bool false]) (by simp [results,Tryz.results19,go_sem,hr0,hr1,hr2]) rfl (OwnSE.nil_ HNO.out SR.out)
end Go.Proofs.YtodoiekbjjiocaaGreat
