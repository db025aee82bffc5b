/- Links: two links merged, the model. Conditions: none. -/
import Derived.Test.YtodoiekbjjiocaaGreatJPk
import Derived.Test.YtodoiekbjjiocaaGreatJLk5m
namespace Go.Proofs.YtodoiekbjjiocaaGreat
open Go.RowKit Nt Fr
set_option linter.unusedVariables false
set_option maxRecDepth 100000 in
set_option maxHeartbeats 40000000 in
theorem mergeLinks_s (A B : Int) (P Q R : Fr) (p0 p1 q0 q1 r0 r1 : Value) (C E : Int) (V U T : Fr) (v0 v1 u0 u1 t0 t1 : Value) (w : World) (hL : LkA w P Q R p0 p1 q0 q1 r0 r1) (hM : LkA w V U T v0 v1 u0 u1 t0 t1) :
 Calls Tryz.prog 26 #[.agg #[.int .i64 A,.int .i64 B,.bool P.s,p0,p1,.bool Q.s,q0,q1,.bool R.s,r0,r1],.agg #[.int .i64 C,.int .i64 E,.bool V.s,v0,v1,.bool U.s,u0,u1,.bool T.s,t0,t1]] w (OwnMG (mgOk A B C E P Q R V U T) A B (P.add V) (mgX P Q V U) (mgX P R V T) (mgE P Q R V U T) w):=by
 have HL:=Hd hL
 have HM:=Hd hM
 clear hL hM
 have c1:=Hd (St.start4 w [.int .i64 A,.int .i64 B,.bool P.s,p0,p1,.bool Q.s,q0,q1,.bool R.s,r0,r1] 40 [.int .i64 C,.int .i64 E,.bool V.s,v0,v1,.bool U.s,u0,u1,.bool T.s,t0,t1] 40 [.int .i64 0,.int .i64 0,.bool false,.slice none 0 0,.slice none 0 0,.bool false,.slice none 0 0,.slice none 0 0,.bool false,.slice none 0 0,.slice none 0 0] 40 [.bool false,.slice none 0 0,.slice none 0 0] 35)
 have m1 : w.heap.size + 1 + 1 + 1 ≠ w.heap.size + 1 + 1:=by omega
 have eQ : w.heap.size + 1 + 1 + 1 ≠ w.heap.size + 1:=by omega
 have eR : w.heap.size + 1 + 1 + 1 ≠ w.heap.size:=by omega
 have m2 : w.heap.size + 1 + 1 ≠ w.heap.size + 1 + 1 + 1:=by omega
 have eS : w.heap.size + 1 + 1 ≠ w.heap.size + 1:=by omega
 have eT : w.heap.size + 1 + 1 ≠ w.heap.size:=by omega
 have eU : w.heap.size + 1 ≠ w.heap.size + 1 + 1 + 1:=by omega
 have eV : w.heap.size + 1 ≠ w.heap.size + 1 + 1:=by omega
 have f3 : w.heap.size + 1 ≠ w.heap.size:=by omega
 have eW : w.heap.size ≠ w.heap.size + 1 + 1 + 1:=by omega
 have eZ : w.heap.size ≠ w.heap.size + 1 + 1:=by omega
 have f4 : w.heap.size ≠ w.heap.size + 1:=by omega
 by_cases h1 : okK A B P Q R = true
 ·have H1:=Hd h1
  clear h1
  by_cases h2 : okK C E V U T = true
  ·have H2:=Hd h2
   clear h2
   by_cases h3 : A = C
   ·by_cases h4 : B = E
    ·have vH:=Hd (mg_mw H1.out H2.out h3 h4)
     rw [vH.out]
     subst h3 h4
     obtain ⟨S,hS⟩ : ∃ z,P.add V = z:=⟨_,rfl⟩
     obtain ⟨M1,hM1⟩ : ∃ z,P.mul Q = z:=⟨_,rfl⟩
     obtain ⟨M2,hM2⟩ : ∃ z,V.mul U = z:=⟨_,rfl⟩
     obtain ⟨N1,hN1⟩ : ∃ z,M1.add M2 = z:=⟨_,rfl⟩
     obtain ⟨X,hX⟩ : ∃ z,N1.div S = z:=⟨_,rfl⟩
     obtain ⟨M3,hM3⟩ : ∃ z,P.mul R = z:=⟨_,rfl⟩
     obtain ⟨M4,hM4⟩ : ∃ z,V.mul T = z:=⟨_,rfl⟩
     obtain ⟨N2,hN2⟩ : ∃ z,M3.add M4 = z:=⟨_,rfl⟩
     obtain ⟨Y,hY⟩ : ∃ z,N2.div S = z:=⟨_,rfl⟩
     obtain ⟨D1,hD1⟩ : ∃ z,Q.sub U = z:=⟨_,rfl⟩
     obtain ⟨D2,hD2⟩ : ∃ z,R.sub T = z:=⟨_,rfl⟩
     obtain ⟨H,hH⟩ : ∃ z,D1.sq D2 = z:=⟨_,rfl⟩
     obtain ⟨W1,hW1⟩ : ∃ z,P.mul V = z:=⟨_,rfl⟩
     obtain ⟨W2,hW2⟩ : ∃ z,W1.div S = z:=⟨_,rfl⟩
     obtain ⟨G,hG⟩ : ∃ z,W2.mul H = z:=⟨_,rfl⟩
     have eX : mgX P Q V U = X:=by unfold mgX; rw [hM1,hM2,hN1,hS,hX]
     have eY : mgX P R V T = Y:=by unfold mgX; rw [hM3,hM4,hN2,hS,hY]
     have eG : mgE P Q R V U T = G:=by unfold mgE; rw [hW1,hS,hW2,hD1,hD2,hH,hG]
     obtain ⟨ok,hok⟩ : ∃ z,mwOk A B P Q R V U T = z:=⟨_,rfl⟩
     have hokd : (okK A B S X Y && G.ok) = ok:=by rw [← hok]; unfold mwOk; rw [eX,eY,eG,hS]
     rw [hok,eX,eY,eG,hS]
     have HOK:=Hd hokd
     clear hok hokd eX eY eG
     have HS:=Hd hS
     clear hS
     have vI:=Hd hM1
     clear hM1
     have vJ:=Hd hM2
     clear hM2
     have HN1:=Hd hN1
     clear hN1
     have HX:=Hd hX
     clear hX
     have vK:=Hd hM3
     clear hM3
     have vL:=Hd hM4
     clear hM4
     have HN2:=Hd hN2
     clear hN2
     have HY:=Hd hY
     clear hY
     have vC:=Hd hD1
     clear hD1
     have sN:=Hd hD2
     clear hD2
     have HH:=Hd hH
     clear hH
     have HW1:=Hd hW1
     clear hW1
     have HW2:=Hd hW2
     clear hW2
     have HG:=Hd hG
     clear hG
     go_enter Tryz.func26,Tryz.ntmps26
     go_wp2_with fail
     refine (isValidLink_s A B P Q R p0 p1 q0 q1 r0 r1 _ (c1.out.lkA HL.out)).mono ?_
     rintro e w1 ⟨rfl,hb⟩
     have vD:=Hd (c1.out.call hb)
     clear c1
     clear hb
     rw [H1.out]
     obtain ⟨e0,e1,e2,e3,e4,e5,e6,e7,e8,e9,dI⟩:=vD.out.c11 2 rfl
     go_wp2_with fail
     refine (isValidLink_s A B V U T v0 v1 u0 u1 t0 t1 _ (vD.out.lkA HM.out)).mono ?_
     rintro e w2 ⟨rfl,hb⟩
     have m3:=Hd (vD.out.call hb)
     clear vD
     clear hb
     rw [H2.out]
     clear e0 e1 e2 e3 e4 e5 e6 e7 e8 e9 dI
     obtain ⟨fA,fB,fC,fD,fE,fF,fG,fH,fI,fJ,dJ⟩:=m3.out.c11 3 rfl
     obtain ⟨fK,fL,fM,fN,fO,fP,fQ,fR,fS,fT,dK⟩:=m3.out.c11 2 rfl
     go_wp2_with fail
     refine (ratAdd_s P V p0 p1 v0 v1 _ (m3.out.lkA HL.out).p (m3.out.lkA HM.out).p).mono ?_
     rintro e w3 ⟨v0,u0,rfl,ho,hb⟩
     obtain ⟨A0,n0,c0,rfl⟩:=(ho.at_ 0 rfl).shape3
     obtain ⟨B0,m0,d0,rfl⟩:=(ho.at_ 1 rfl).shape3
     have vE:=Hd (m3.out.rows ho hb)
     clear m3
     clear ho hb
     rw [HS.out] at vE ⊢
     have cZ:=Hd (vE.out.allocE [.bool S.s,(.slice A0 n0 c0),(.slice B0 m0 d0)] 35)
     clear vE
     have c4:=cZ.out.ne 0 4 rfl rfl (by decide)
     have c5:=cZ.out.ne 4 0 rfl rfl (by decide)
     have c6:=cZ.out.ne 1 4 rfl rfl (by decide)
     have c7:=cZ.out.ne 4 1 rfl rfl (by decide)
     have dL:=cZ.out.ne 2 4 rfl rfl (by decide)
     have dM:=cZ.out.ne 4 2 rfl rfl (by decide)
     have dN:=cZ.out.ne 3 4 rfl rfl (by decide)
     have dO:=cZ.out.ne 4 3 rfl rfl (by decide)
     clear fA fB fC fD fE fF fG fH fI fJ dJ fK fL fM fN fO fP fQ fR fS fT dK
     obtain ⟨bK,bL,bM,bN,bO,bP,bQ,bR,bS,bT,aQ⟩:=cZ.out.c11 3 rfl
     obtain ⟨bU,bV,bW,bX,bY,bZ,b0,b1,b2,b3,aR⟩:=cZ.out.c11 2 rfl
     go_upto_region 4 with fail
     clear bK bL bM bN bO bP bQ bR bS bT aQ bU bV bW bX bY bZ b0 b1 b2 b3 aR
     obtain ⟨wb,hwb⟩ : ∃ u,(w3.alloc (.cells #[.bool S.s,(.slice A0 n0 c0),(.slice B0 m0 d0)] 35)) = u:=⟨_,rfl⟩
     rw [hwb] at cZ ⊢
     clear hwb
     obtain ⟨bK,bL,bM,bN,bO,bP,bQ,bR,bS,bT,aQ⟩:=cZ.out.c11 3 rfl
     obtain ⟨bU,bV,bW,bX,bY,bZ,b0,b1,b2,b3,aR⟩:=cZ.out.c11 2 rfl
     obtain ⟨c8,c9,dA⟩:=cZ.out.c3 4 rfl
     have cN:=Hd (cZ.out.allocE [.int .i64 A,.int .i64 B,.bool S.s,(.slice A0 n0 c0),(.slice B0 m0 d0),.bool false,.slice none 0 0,.slice none 0 0,.bool false,.slice none 0 0,.slice none 0 0] 40)
     clear cZ
     have kF:=cN.out.ne 0 5 rfl rfl (by decide)
     have kG:=cN.out.ne 5 0 rfl rfl (by decide)
     have kH:=cN.out.ne 1 5 rfl rfl (by decide)
     have kI:=cN.out.ne 5 1 rfl rfl (by decide)
     have dP:=cN.out.ne 2 5 rfl rfl (by decide)
     have dQ:=cN.out.ne 5 2 rfl rfl (by decide)
     have dR:=cN.out.ne 3 5 rfl rfl (by decide)
     have dS:=cN.out.ne 5 3 rfl rfl (by decide)
     have cO:=cN.out.ne 4 5 rfl rfl (by decide)
     have cP:=cN.out.ne 5 4 rfl rfl (by decide)
     go_upto_region 5 with fail
     clear bK bL bM bN bO bP bQ bR bS bT aQ bU bV bW bX bY bZ b0 b1 b2 b3 aR c8 c9 dA
     obtain ⟨wd,hwd⟩ : ∃ u,(wb.alloc (.cells #[.int .i64 A,.int .i64 B,.bool S.s,(.slice A0 n0 c0),(.slice B0 m0 d0),.bool false,.slice none 0 0,.slice none 0 0,.bool false,.slice none 0 0,.slice none 0 0] 40)) = u:=⟨_,rfl⟩
     rw [hwd] at cN ⊢
     clear hwd
     obtain ⟨sO,sP,sQ,sR,sT,sU,sV,sW,sX,sY,m4⟩:=cN.out.c11 3 rfl
     obtain ⟨sZ,s1,s2,s3,s4,s5,s6,s7,s8,s9,m5⟩:=cN.out.c11 2 rfl
     obtain ⟨kJ,kK,kL⟩:=cN.out.c3 4 rfl
     skip
     go_region_held3 (fun w' =>w'.cell? ⟨w.heap.size + 1,0,none⟩ = some (.int .i64 A) ∧ w'.cell? ⟨w.heap.size + 1,1,none⟩ = some (.int .i64 B) ∧ w'.cell? ⟨w.heap.size + 1,2,none⟩ = some (.bool V.s) ∧ w'.cell? ⟨w.heap.size + 1,3,none⟩ = some (v0) ∧ w'.cell? ⟨w.heap.size + 1,4,none⟩ = some (v1) ∧ w'.cell? ⟨w.heap.size + 1,5,none⟩ = some (.bool U.s) ∧ w'.cell? ⟨w.heap.size + 1,6,none⟩ = some (u0) ∧ w'.cell? ⟨w.heap.size + 1,7,none⟩ = some (u1) ∧ w'.cell? ⟨w.heap.size + 1,8,none⟩ = some (.bool T.s) ∧ w'.cell? ⟨w.heap.size + 1,9,none⟩ = some (t0) ∧ w'.cell? ⟨w.heap.size + 1,10,none⟩ = some (t1) ∧ w'.cell? ⟨w.heap.size,0,none⟩ = some (.int .i64 A) ∧ w'.cell? ⟨w.heap.size,1,none⟩ = some (.int .i64 B) ∧ w'.cell? ⟨w.heap.size,2,none⟩ = some (.bool P.s) ∧ w'.cell? ⟨w.heap.size,3,none⟩ = some (p0) ∧ w'.cell? ⟨w.heap.size,4,none⟩ = some (p1) ∧ w'.cell? ⟨w.heap.size,5,none⟩ = some (.bool Q.s) ∧ w'.cell? ⟨w.heap.size,6,none⟩ = some (q0) ∧ w'.cell? ⟨w.heap.size,7,none⟩ = some (q1) ∧ w'.cell? ⟨w.heap.size,8,none⟩ = some (.bool R.s) ∧ w'.cell? ⟨w.heap.size,9,none⟩ = some (r0) ∧ w'.cell? ⟨w.heap.size,10,none⟩ = some (r1) ∧ w'.cell? ⟨w3.heap.size,0,none⟩ = some (.bool S.s) ∧ w'.cell? ⟨w3.heap.size,1,none⟩ = some ((.slice A0 n0 c0)) ∧ w'.cell? ⟨w3.heap.size,2,none⟩ = some ((.slice B0 m0 d0))) (go_keep)
      (first
        |(go_at_call_of 50 (Value.agg #[Value.bool P.s,p0,p1])
          go_at_call_of 50 (Value.agg #[Value.bool Q.s,q0,q1])
          refine (ratMul_s P Q p0 p1 q0 q1 _ (cN.out.drew.lkA HL.out).p (cN.out.drew.lkA HL.out).q).mono ?_
          rintro e wx1 ⟨vx1,ux1,rfl,ho,hb⟩
          obtain ⟨Ax1,nx1,cx1,rfl⟩:=(ho.at_ 0 rfl).shape3
          obtain ⟨Bx1,mx1,dx1,rfl⟩:=(ho.at_ 1 rfl).shape3
          rw [vI.out] at ho ⊢
          have gZ:=Hd (cN.out.drew.rows ho hb)
          clear cN ho hb
          obtain ⟨tA,tB,tC,tD,tE,tF,tG,tH,tJ,tK,m6⟩:=gZ.out.c11 3 rfl
          obtain ⟨tL,tM,tO,tP,tQ,tR,tS,tT,tU,tV,m7⟩:=gZ.out.c11 2 rfl
          obtain ⟨kM,kN⟩:=gZ.out.c2 4 rfl
          have kO:=gZ.out.cell 4 2 rfl rfl)
        |(go_at_call_of 50 (Value.agg #[Value.bool V.s,v0,v1])
          go_at_call_of 50 (Value.agg #[Value.bool U.s,u0,u1])
          refine (ratMul_s V U v0 v1 u0 u1 _ (gZ.out.lkA HM.out).p (gZ.out.lkA HM.out).q).mono ?_
          rintro e wx2 ⟨vx2,ux2,rfl,ho,hb⟩
          obtain ⟨Ax2,nx2,cx2,rfl⟩:=(ho.at_ 0 rfl).shape3
          obtain ⟨Bx2,mx2,dx2,rfl⟩:=(ho.at_ 1 rfl).shape3
          rw [vJ.out] at ho ⊢
          have g0:=Hd (gZ.out.rows ho hb)
          clear gZ ho hb
          obtain ⟨tW,tX,tY,tZ,t2,t3,t4,t5,t6,t7,m8⟩:=g0.out.c11 3 rfl
          obtain ⟨t8,t9,uA,uB,uC,uD,uE,uF,uG,uH,m9⟩:=g0.out.c11 2 rfl
          obtain ⟨kP,kQ⟩:=g0.out.c2 4 rfl
          have kR:=g0.out.cell 4 2 rfl rfl)
        |(go_at_call_of 40 (Value.agg #[Value.bool M1.s,(Value.slice Ax1 nx1 cx1),(Value.slice Bx1 mx1 dx1)])
          refine (ratAdd_s M1 M2 (.slice Ax1 nx1 cx1) (.slice Bx1 mx1 dx1) (.slice Ax2 nx2 cx2) (.slice Bx2 mx2 dx2) _ (g0.out.fr 1 0 rfl rfl rfl) (g0.out.fr 0 0 rfl rfl rfl)).mono ?_
          rintro e wx3 ⟨vx3,ux3,rfl,ho,hb⟩
          obtain ⟨Ax3,nx3,cx3,rfl⟩:=(ho.at_ 0 rfl).shape3
          obtain ⟨Bx3,mx3,dx3,rfl⟩:=(ho.at_ 1 rfl).shape3
          rw [HN1.out] at ho ⊢
          have g4:=Hd (g0.out.rows ho hb)
          clear g0 ho hb
          obtain ⟨uI,uJ,uK,uL,uM,uN,uO,uP,uQ,uR,nA⟩:=g4.out.c11 3 rfl
          obtain ⟨uS,uT,uU,uV,uW,uX,uY,uZ,u2,u3,nB⟩:=g4.out.c11 2 rfl
          obtain ⟨kS,kT⟩:=g4.out.c2 4 rfl
          have kU:=g4.out.cell 4 2 rfl rfl)
        |(go_at_call_of 49 (Value.agg #[Value.bool N1.s,(Value.slice Ax3 nx3 cx3),(Value.slice Bx3 mx3 dx3)])
          refine (ratDiv_s N1 S (.slice Ax3 nx3 cx3) (.slice Bx3 mx3 dx3) (.slice A0 n0 c0) (.slice B0 m0 d0) _ (g4.out.fr 0 0 rfl rfl rfl) (g4.out.fr 3 0 rfl rfl rfl)).mono ?_
          rintro e wx4 ⟨vx4,ux4,rfl,ho,hb⟩
          obtain ⟨Ax4,nx4,cx4,rfl⟩:=(ho.at_ 0 rfl).shape3
          obtain ⟨Bx4,mx4,dx4,rfl⟩:=(ho.at_ 1 rfl).shape3
          rw [HX.out] at ho ⊢
          have cQ:=Hd (g4.out.rows ho hb)
          clear g4 ho hb
          obtain ⟨nC,nD,nE,nF,nG,nH,nI,nJ,nK,nL,kV⟩:=cQ.out.c11 3 rfl
          obtain ⟨nM,nN,nO,nP,nQ,nR,nS,nT,nU,nV,kW⟩:=cQ.out.c11 2 rfl
          obtain ⟨g5,g6,g7⟩:=cQ.out.c3 4 rfl
          obtain ⟨g8,f5,g9,f6,hA,f7,hB,f8,hC,f9,hD,gA,hE,gB,hF,gC,hI,gD,hJ,gE⟩:=cQ.out.g10 5 rfl
          have gF:=cQ.out.cell 5 10 rfl rfl
          have f1:=cQ.out.froz 5 10 rfl rfl))
     go_upto_region 6 with fail
     have cR:=Hd (show St w (((wx4.setCell ⟨wb.heap.size,5,none⟩ (.bool X.s)).setCell ⟨wb.heap.size,6,none⟩ ((.slice Ax4 nx4 cx4))).setCell ⟨wb.heap.size,7,none⟩ ((.slice Bx4 mx4 dx4))) [(w.heap.size + 1 + 1 + 1,[.bool false,.slice none 0 0,.slice none 0 0]),(w.heap.size + 1 + 1,[.int .i64 0,.int .i64 0,.bool false,.slice none 0 0,.slice none 0 0,.bool false,.slice none 0 0,.slice none 0 0,.bool false,.slice none 0 0,.slice none 0 0]),(w.heap.size + 1,[.int .i64 A,.int .i64 B,.bool V.s,v0,v1,.bool U.s,u0,u1,.bool T.s,t0,t1]),(w.heap.size,[.int .i64 A,.int .i64 B,.bool P.s,p0,p1,.bool Q.s,q0,q1,.bool R.s,r0,r1]),(w3.heap.size,[.bool S.s,(.slice A0 n0 c0),(.slice B0 m0 d0)]),(wb.heap.size,[.int .i64 A,.int .i64 B,.bool S.s,(.slice A0 n0 c0),(.slice B0 m0 d0),.bool X.s,(.slice Ax4 nx4 cx4),(.slice Bx4 mx4 dx4),.bool false,.slice none 0 0,.slice none 0 0])] [[((.slice Ax4 nx4 cx4),ints X.xs),((.slice Bx4 mx4 dx4),ints X.ys)],[((.slice Ax3 nx3 cx3),ints N1.xs),((.slice Bx3 mx3 dx3),ints N1.ys)],[((.slice Ax2 nx2 cx2),ints M2.xs),((.slice Bx2 mx2 dx2),ints M2.ys)],[((.slice Ax1 nx1 cx1),ints M1.xs),((.slice Bx1 mx1 dx1),ints M1.ys)],[((.slice A0 n0 c0),ints S.xs),((.slice B0 m0 d0),ints S.ys)]] from (((cQ.out.set 5 5 (.bool X.s) rfl rfl).set 5 6 ((.slice Ax4 nx4 cx4)) rfl rfl).set 5 7 ((.slice Bx4 mx4 dx4)) rfl rfl))
     clear cQ
     obtain ⟨we,hwe⟩ : ∃ u,(((wx4.setCell ⟨wb.heap.size,5,none⟩ (.bool X.s)).setCell ⟨wb.heap.size,6,none⟩ ((.slice Ax4 nx4 cx4))).setCell ⟨wb.heap.size,7,none⟩ ((.slice Bx4 mx4 dx4))) = u:=⟨_,rfl⟩
     rw [hwe] at cR ⊢
     clear hwe
     obtain ⟨nW,nX,nY,nZ,n1,n2,n3,n4,n5,n6,kX⟩:=cR.out.c11 3 rfl
     obtain ⟨n7,n8,n9,oA,oB,oC,oD,oE,oF,oG,kY⟩:=cR.out.c11 2 rfl
     obtain ⟨hN,hO,hP⟩:=cR.out.c3 4 rfl
     skip
     go_region_held3 (fun w' =>w'.cell? ⟨w.heap.size + 1,0,none⟩ = some (.int .i64 A) ∧ w'.cell? ⟨w.heap.size + 1,1,none⟩ = some (.int .i64 B) ∧ w'.cell? ⟨w.heap.size + 1,2,none⟩ = some (.bool V.s) ∧ w'.cell? ⟨w.heap.size + 1,3,none⟩ = some (v0) ∧ w'.cell? ⟨w.heap.size + 1,4,none⟩ = some (v1) ∧ w'.cell? ⟨w.heap.size + 1,5,none⟩ = some (.bool U.s) ∧ w'.cell? ⟨w.heap.size + 1,6,none⟩ = some (u0) ∧ w'.cell? ⟨w.heap.size + 1,7,none⟩ = some (u1) ∧ w'.cell? ⟨w.heap.size + 1,8,none⟩ = some (.bool T.s) ∧ w'.cell? ⟨w.heap.size + 1,9,none⟩ = some (t0) ∧ w'.cell? ⟨w.heap.size + 1,10,none⟩ = some (t1) ∧ w'.cell? ⟨w.heap.size,0,none⟩ = some (.int .i64 A) ∧ w'.cell? ⟨w.heap.size,1,none⟩ = some (.int .i64 B) ∧ w'.cell? ⟨w.heap.size,2,none⟩ = some (.bool P.s) ∧ w'.cell? ⟨w.heap.size,3,none⟩ = some (p0) ∧ w'.cell? ⟨w.heap.size,4,none⟩ = some (p1) ∧ w'.cell? ⟨w.heap.size,5,none⟩ = some (.bool Q.s) ∧ w'.cell? ⟨w.heap.size,6,none⟩ = some (q0) ∧ w'.cell? ⟨w.heap.size,7,none⟩ = some (q1) ∧ w'.cell? ⟨w.heap.size,8,none⟩ = some (.bool R.s) ∧ w'.cell? ⟨w.heap.size,9,none⟩ = some (r0) ∧ w'.cell? ⟨w.heap.size,10,none⟩ = some (r1) ∧ w'.cell? ⟨w3.heap.size,0,none⟩ = some (.bool S.s) ∧ w'.cell? ⟨w3.heap.size,1,none⟩ = some ((.slice A0 n0 c0)) ∧ w'.cell? ⟨w3.heap.size,2,none⟩ = some ((.slice B0 m0 d0))) (go_keep)
      (first
        |(go_at_call_of 50 (Value.agg #[Value.bool P.s,p0,p1])
          go_at_call_of 50 (Value.agg #[Value.bool R.s,r0,r1])
          refine (ratMul_s P R p0 p1 r0 r1 _ (cR.out.drew.lkA HL.out).p (cR.out.drew.lkA HL.out).r).mono ?_
          rintro e wy1 ⟨vy1,uy1,rfl,ho,hb⟩
          obtain ⟨Ay1,ny1,cy1,rfl⟩:=(ho.at_ 0 rfl).shape3
          obtain ⟨By1,my1,dy1,rfl⟩:=(ho.at_ 1 rfl).shape3
          rw [vK.out] at ho ⊢
          have cS:=Hd (cR.out.drew.rows ho hb)
          clear cR ho hb
          obtain ⟨oH,oI,oJ,oK,oL,oM,oN,oO,oP,oQ,kZ⟩:=cS.out.c11 3 rfl
          obtain ⟨oR,oS,oT,oU,oV,oW,oX,oY,oZ,o0,k0⟩:=cS.out.c11 2 rfl
          obtain ⟨hQ,hR⟩:=cS.out.c2 4 rfl
          have hT:=cS.out.cell 4 2 rfl rfl)
        |(go_at_call_of 50 (Value.agg #[Value.bool V.s,v0,v1])
          go_at_call_of 50 (Value.agg #[Value.bool T.s,t0,t1])
          refine (ratMul_s V T v0 v1 t0 t1 _ (cS.out.lkA HM.out).p (cS.out.lkA HM.out).r).mono ?_
          rintro e wy2 ⟨vy2,uy2,rfl,ho,hb⟩
          obtain ⟨Ay2,ny2,cy2,rfl⟩:=(ho.at_ 0 rfl).shape3
          obtain ⟨By2,my2,dy2,rfl⟩:=(ho.at_ 1 rfl).shape3
          rw [vL.out] at ho ⊢
          have cT:=Hd (cS.out.rows ho hb)
          clear cS ho hb
          obtain ⟨o1,o2,o3,o4,o5,o6,o7,o8,o9,pA,k1⟩:=cT.out.c11 3 rfl
          obtain ⟨pB,pC,pD,pE,pF,pG,pH,pI,pJ,pK,k2⟩:=cT.out.c11 2 rfl
          obtain ⟨hU,hV⟩:=cT.out.c2 4 rfl
          have hW:=cT.out.cell 4 2 rfl rfl)
        |(go_at_call_of 40 (Value.agg #[Value.bool M3.s,(Value.slice Ay1 ny1 cy1),(Value.slice By1 my1 dy1)])
          refine (ratAdd_s M3 M4 (.slice Ay1 ny1 cy1) (.slice By1 my1 dy1) (.slice Ay2 ny2 cy2) (.slice By2 my2 dy2) _ (cT.out.fr 1 0 rfl rfl rfl) (cT.out.fr 0 0 rfl rfl rfl)).mono ?_
          rintro e wy3 ⟨vy3,uy3,rfl,ho,hb⟩
          obtain ⟨Ay3,ny3,cy3,rfl⟩:=(ho.at_ 0 rfl).shape3
          obtain ⟨By3,my3,dy3,rfl⟩:=(ho.at_ 1 rfl).shape3
          rw [HN2.out] at ho ⊢
          have cU:=Hd (cT.out.rows ho hb)
          clear cT ho hb
          obtain ⟨pL,pM,pN,pO,pP,pQ,pR,pS,pT,pU,k3⟩:=cU.out.c11 3 rfl
          obtain ⟨pV,pW,pX,pY,pZ,p2,p3,p4,p5,p6,k4⟩:=cU.out.c11 2 rfl
          obtain ⟨hZ,h0⟩:=cU.out.c2 4 rfl
          have h5:=cU.out.cell 4 2 rfl rfl)
        |(go_at_call_of 49 (Value.agg #[Value.bool N2.s,(Value.slice Ay3 ny3 cy3),(Value.slice By3 my3 dy3)])
          refine (ratDiv_s N2 S (.slice Ay3 ny3 cy3) (.slice By3 my3 dy3) (.slice A0 n0 c0) (.slice B0 m0 d0) _ (cU.out.fr 0 0 rfl rfl rfl) (cU.out.fr 7 0 rfl rfl rfl)).mono ?_
          rintro e wy4 ⟨vy4,uy4,rfl,ho,hb⟩
          obtain ⟨Ay4,ny4,cy4,rfl⟩:=(ho.at_ 0 rfl).shape3
          obtain ⟨By4,my4,dy4,rfl⟩:=(ho.at_ 1 rfl).shape3
          rw [HY.out] at ho ⊢
          have cV:=Hd (cU.out.rows ho hb)
          clear cU ho hb
          obtain ⟨p7,p8,p9,qA,qB,qC,qD,qE,qF,qG,k5⟩:=cV.out.c11 3 rfl
          obtain ⟨qH,qI,qJ,qK,qL,qM,qN,qO,qP,qQ,k6⟩:=cV.out.c11 2 rfl
          obtain ⟨h6,h7,iA⟩:=cV.out.c3 4 rfl
          obtain ⟨iB,gG,iC,gH,iD,gI,iE,gJ,iF,gK,iG,gL,iH,gM,iI,gN,iJ,gO,iK,gP⟩:=cV.out.g10 5 rfl
          have gQ:=cV.out.cell 5 10 rfl rfl
          have f2:=cV.out.froz 5 10 rfl rfl))
     go_upto_region 7 with fail
     have k7:=Hd (show St w (((wy4.setCell ⟨wb.heap.size,8,none⟩ (.bool Y.s)).setCell ⟨wb.heap.size,9,none⟩ ((.slice Ay4 ny4 cy4))).setCell ⟨wb.heap.size,10,none⟩ ((.slice By4 my4 dy4))) [(w.heap.size + 1 + 1 + 1,[.bool false,.slice none 0 0,.slice none 0 0]),(w.heap.size + 1 + 1,[.int .i64 0,.int .i64 0,.bool false,.slice none 0 0,.slice none 0 0,.bool false,.slice none 0 0,.slice none 0 0,.bool false,.slice none 0 0,.slice none 0 0]),(w.heap.size + 1,[.int .i64 A,.int .i64 B,.bool V.s,v0,v1,.bool U.s,u0,u1,.bool T.s,t0,t1]),(w.heap.size,[.int .i64 A,.int .i64 B,.bool P.s,p0,p1,.bool Q.s,q0,q1,.bool R.s,r0,r1]),(w3.heap.size,[.bool S.s,(.slice A0 n0 c0),(.slice B0 m0 d0)]),(wb.heap.size,[.int .i64 A,.int .i64 B,.bool S.s,(.slice A0 n0 c0),(.slice B0 m0 d0),.bool X.s,(.slice Ax4 nx4 cx4),(.slice Bx4 mx4 dx4),.bool Y.s,(.slice Ay4 ny4 cy4),(.slice By4 my4 dy4)])] [[((.slice Ay4 ny4 cy4),ints Y.xs),((.slice By4 my4 dy4),ints Y.ys)],[((.slice Ay3 ny3 cy3),ints N2.xs),((.slice By3 my3 dy3),ints N2.ys)],[((.slice Ay2 ny2 cy2),ints M4.xs),((.slice By2 my2 dy2),ints M4.ys)],[((.slice Ay1 ny1 cy1),ints M3.xs),((.slice By1 my1 dy1),ints M3.ys)],[((.slice Ax4 nx4 cx4),ints X.xs),((.slice Bx4 mx4 dx4),ints X.ys)],[((.slice Ax3 nx3 cx3),ints N1.xs),((.slice Bx3 mx3 dx3),ints N1.ys)],[((.slice Ax2 nx2 cx2),ints M2.xs),((.slice Bx2 mx2 dx2),ints M2.ys)],[((.slice Ax1 nx1 cx1),ints M1.xs),((.slice Bx1 mx1 dx1),ints M1.ys)],[((.slice A0 n0 c0),ints S.xs),((.slice B0 m0 d0),ints S.ys)]] from (((cV.out.set 5 8 (.bool Y.s) rfl rfl).set 5 9 ((.slice Ay4 ny4 cy4)) rfl rfl).set 5 10 ((.slice By4 my4 dy4)) rfl rfl))
     clear cV
     obtain ⟨wg,hwg⟩ : ∃ u,(((wy4.setCell ⟨wb.heap.size,8,none⟩ (.bool Y.s)).setCell ⟨wb.heap.size,9,none⟩ ((.slice Ay4 ny4 cy4))).setCell ⟨wb.heap.size,10,none⟩ ((.slice By4 my4 dy4))) = u:=⟨_,rfl⟩
     rw [hwg] at k7 ⊢
     clear hwg
     have u4:=Hd (k7.out.drop 7)
     clear k7
     have u5:=Hd (u4.out.drop 6)
     clear u4
     have u6:=Hd (u5.out.drop 5)
     clear u5
     have u7:=Hd (u6.out.drop 3)
     clear u6
     have u8:=Hd (u7.out.drop 2)
     clear u7
     have b4:=Hd (u8.out.drop 1)
     clear u8
     obtain ⟨dT,dU,dV,dW,dX,dY,dZ,d1,d2,d3,dB⟩:=b4.out.c11 3 rfl
     obtain ⟨d4,d5,d6,d7,d8,d9,eA,eB,eC,eD,dC⟩:=b4.out.c11 2 rfl
     obtain ⟨cW,cX,cY⟩:=b4.out.c3 4 rfl
     go_upto_region 7 with fail
     clear dT dU dV dW dX dY dZ d1 d2 d3 dB d4 d5 d6 d7 d8 d9 eA eB eC eD dC cW cX cY
     go_cut [9] (fun ptr wx=>∃ blk Ae3 ne3 ce3 Be3 me3 de3,ptr = .pointer (some ⟨blk,0,none⟩) ∧ St w wx [(w.heap.size + 1 + 1 + 1,[.bool false,.slice none 0 0,.slice none 0 0]),(w.heap.size + 1 + 1,[.int .i64 0,.int .i64 0,.bool false,.slice none 0 0,.slice none 0 0,.bool false,.slice none 0 0,.slice none 0 0,.bool false,.slice none 0 0,.slice none 0 0]),(w.heap.size + 1,[.int .i64 A,.int .i64 B,.bool V.s,v0,v1,.bool U.s,u0,u1,.bool T.s,t0,t1]),(w.heap.size,[.int .i64 A,.int .i64 B,.bool P.s,p0,p1,.bool Q.s,q0,q1,.bool R.s,r0,r1]),(w3.heap.size,[.bool S.s,(.slice A0 n0 c0),(.slice B0 m0 d0)]),(wb.heap.size,[.int .i64 A,.int .i64 B,.bool S.s,(.slice A0 n0 c0),(.slice B0 m0 d0),.bool X.s,(.slice Ax4 nx4 cx4),(.slice Bx4 mx4 dx4),.bool Y.s,(.slice Ay4 ny4 cy4),(.slice By4 my4 dy4)]),(blk,[.bool G.s,(.slice Ae3 ne3 ce3),(.slice Be3 me3 de3)])] [[((.slice Ae3 ne3 ce3),ints G.xs),((.slice Be3 me3 de3),ints G.ys)],[((.slice Ay4 ny4 cy4),ints Y.xs),((.slice By4 my4 dy4),ints Y.ys)],[((.slice Ax4 nx4 cx4),ints X.xs),((.slice Bx4 mx4 dx4),ints X.ys)],[((.slice A0 n0 c0),ints S.xs),((.slice B0 m0 d0),ints S.ys)]])
     case first=>
      have aA : ∀ (w' : World) (x0_ x1_ x2_ : List Value) (bs' : List (Nat × List Value)) (cs' : List Chunk),St w w' ((w.heap.size + 1 + 1 + 1,x0_) :: (w.heap.size + 1 + 1,x1_) :: (w.heap.size + 1,[.int .i64 A,.int .i64 B,.bool V.s,v0,v1,.bool U.s,u0,u1,.bool T.s,t0,t1]) :: (w.heap.size,[.int .i64 A,.int .i64 B,.bool P.s,p0,p1,.bool Q.s,q0,q1,.bool R.s,r0,r1]) :: (w3.heap.size,[.bool S.s,(.slice A0 n0 c0),(.slice B0 m0 d0)]) :: (wb.heap.size,x2_) :: bs') cs' → w'.cell? ⟨w.heap.size + 1,0,none⟩ = some (.int .i64 A) ∧ w'.cell? ⟨w.heap.size + 1,1,none⟩ = some (.int .i64 B) ∧ w'.cell? ⟨w.heap.size + 1,2,none⟩ = some (.bool V.s) ∧ w'.cell? ⟨w.heap.size + 1,3,none⟩ = some (v0) ∧ w'.cell? ⟨w.heap.size + 1,4,none⟩ = some (v1) ∧ w'.cell? ⟨w.heap.size + 1,5,none⟩ = some (.bool U.s) ∧ w'.cell? ⟨w.heap.size + 1,6,none⟩ = some (u0) ∧ w'.cell? ⟨w.heap.size + 1,7,none⟩ = some (u1) ∧ w'.cell? ⟨w.heap.size + 1,8,none⟩ = some (.bool T.s) ∧ w'.cell? ⟨w.heap.size + 1,9,none⟩ = some (t0) ∧ w'.cell? ⟨w.heap.size + 1,10,none⟩ = some (t1) ∧ w'.cell? ⟨w.heap.size,0,none⟩ = some (.int .i64 A) ∧ w'.cell? ⟨w.heap.size,1,none⟩ = some (.int .i64 B) ∧ w'.cell? ⟨w.heap.size,2,none⟩ = some (.bool P.s) ∧ w'.cell? ⟨w.heap.size,3,none⟩ = some (p0) ∧ w'.cell? ⟨w.heap.size,4,none⟩ = some (p1) ∧ w'.cell? ⟨w.heap.size,5,none⟩ = some (.bool Q.s) ∧ w'.cell? ⟨w.heap.size,6,none⟩ = some (q0) ∧ w'.cell? ⟨w.heap.size,7,none⟩ = some (q1) ∧ w'.cell? ⟨w.heap.size,8,none⟩ = some (.bool R.s) ∧ w'.cell? ⟨w.heap.size,9,none⟩ = some (r0) ∧ w'.cell? ⟨w.heap.size,10,none⟩ = some (r1) ∧ w'.cell? ⟨w3.heap.size,0,none⟩ = some (.bool S.s) ∧ w'.cell? ⟨w3.heap.size,1,none⟩ = some ((.slice A0 n0 c0)) ∧ w'.cell? ⟨w3.heap.size,2,none⟩ = some ((.slice B0 m0 d0)):=fun w' x0_ x1_ x2_ bs' cs' h=>(h.d11 2 rfl (h.d11 3 rfl (h.c3 4 rfl)))
      refine wp_region_noPanic ?_
      refine wp_region_held_drew (S:=(fun w' =>w'.cell? ⟨w.heap.size + 1,0,none⟩ = some (.int .i64 A) ∧ w'.cell? ⟨w.heap.size + 1,1,none⟩ = some (.int .i64 B) ∧ w'.cell? ⟨w.heap.size + 1,2,none⟩ = some (.bool V.s) ∧ w'.cell? ⟨w.heap.size + 1,3,none⟩ = some (v0) ∧ w'.cell? ⟨w.heap.size + 1,4,none⟩ = some (v1) ∧ w'.cell? ⟨w.heap.size + 1,5,none⟩ = some (.bool U.s) ∧ w'.cell? ⟨w.heap.size + 1,6,none⟩ = some (u0) ∧ w'.cell? ⟨w.heap.size + 1,7,none⟩ = some (u1) ∧ w'.cell? ⟨w.heap.size + 1,8,none⟩ = some (.bool T.s) ∧ w'.cell? ⟨w.heap.size + 1,9,none⟩ = some (t0) ∧ w'.cell? ⟨w.heap.size + 1,10,none⟩ = some (t1) ∧ w'.cell? ⟨w.heap.size,0,none⟩ = some (.int .i64 A) ∧ w'.cell? ⟨w.heap.size,1,none⟩ = some (.int .i64 B) ∧ w'.cell? ⟨w.heap.size,2,none⟩ = some (.bool P.s) ∧ w'.cell? ⟨w.heap.size,3,none⟩ = some (p0) ∧ w'.cell? ⟨w.heap.size,4,none⟩ = some (p1) ∧ w'.cell? ⟨w.heap.size,5,none⟩ = some (.bool Q.s) ∧ w'.cell? ⟨w.heap.size,6,none⟩ = some (q0) ∧ w'.cell? ⟨w.heap.size,7,none⟩ = some (q1) ∧ w'.cell? ⟨w.heap.size,8,none⟩ = some (.bool R.s) ∧ w'.cell? ⟨w.heap.size,9,none⟩ = some (r0) ∧ w'.cell? ⟨w.heap.size,10,none⟩ = some (r1) ∧ w'.cell? ⟨w3.heap.size,0,none⟩ = some (.bool S.s) ∧ w'.cell? ⟨w3.heap.size,1,none⟩ = some ((.slice A0 n0 c0)) ∧ w'.cell? ⟨w3.heap.size,2,none⟩ = some ((.slice B0 m0 d0)))) (by kernel_rfl) ?_ (fun vG=>?_)
      ·exact aA _ _ _ _ _ _ b4.out.drew
      refine tI 0 rfl ?_ ?_ ?_
      rotate_left
      ·intro w9 bI; (try dsimp only at bI); go_simp; try with_reducible rfl
      try simp only [pm,s0,sS]
      refine tI 1 rfl ?_ ?_ ?_
      rotate_left
      ·intro w9 bI; (try dsimp only at bI); go_simp; try with_reducible rfl
      try simp only [pm,s0,sS]
      refine tI 2 rfl ?_ ?_ ?_
      rotate_left
      ·intro w9 bI; (try dsimp only at bI); go_simp; try with_reducible rfl
      try simp only [pm,s0,sS]
      refine tI 3 rfl ?_ ?_ ?_
      rotate_left
      ·intro w9 bI; (try dsimp only at bI); go_simp; try with_reducible rfl
      try simp only [pm,s0,sS]
      refine tI 5 rfl ?_ ?_ ?_
      rotate_left
      ·intro w9 bI; (try dsimp only at bI); go_simp; try with_reducible rfl
      try simp only [pm,s0,sS]
      refine tI 7 rfl ?_ ?_ ?_
      rotate_left
      ·intro w9 bI; (try dsimp only at bI); go_simp; try with_reducible rfl
      try simp only [pm,s0,sS]
      refine tI 8 rfl ?_ ?_ ?_
      rotate_left
      ·intro w9 bI; (try dsimp only at bI); go_simp; try with_reducible rfl
      try simp only [pm,s0,sS]
      refine tI 9 rfl ?_ ?_ ?_
      rotate_left
      ·intro w9 bI; (try dsimp only at bI); go_simp; try with_reducible rfl
      try simp only [pm,s0,sS]
      refine tI 10 rfl ?_ ?_ ?_
      rotate_left
      ·intro w9 bI; (try dsimp only at bI); go_simp; try with_reducible rfl
      try simp only [pm,s0,sS]
      refine tI 12 rfl ?_ ?_ ?_
      rotate_left
      ·intro w9 bI; (try dsimp only at bI); go_simp; try with_reducible rfl
      try simp only [pm,s0,sS]
      refine tI 13 rfl ?_ ?_ ?_
      rotate_left
      ·intro w9 bI; (try dsimp only at bI); go_simp; try with_reducible rfl
      try simp only [pm,s0,sS]
      refine tI 14 rfl ?_ ?_ ?_
      rotate_left
      ·intro w9 bI; (try dsimp only at bI); go_simp; try with_reducible rfl
      try simp only [pm,s0,sS]
      refine tI 15 rfl ?_ ?_ ?_
      rotate_left
      ·intro w9 bI; (try dsimp only at bI); go_simp; try with_reducible rfl
      try simp only [pm,s0,sS]
      refine wpAnyH_ready (rs:=[4,19]) (by kernel_rfl) (by simp) ?_
      refine ac rfl (fun K hK=>?_) ?_
      ·go_simp
       go_at_call_of 50 (Value.agg #[Value.bool P.s,p0,p1])
       refine (ratMul_s P V p0 p1 v0 v1 _ (b4.out.drew.lkA HL.out).p (b4.out.drew.lkA HM.out).p).mono ?_
       rintro e wf1 ⟨ve1,ue1,rfl,ho,hb⟩
       obtain ⟨Ae1,ne1,ce1,rfl⟩:=(ho.at_ 0 rfl).shape3
       obtain ⟨Be1,me1,de1,rfl⟩:=(ho.at_ 1 rfl).shape3
       rw [HW1.out] at ho ⊢
       have aS:=Hd (b4.out.drew.rows ho hb)
       clear b4 ho hb
       refine hK.out _ _ (aA _ _ _ _ _ _ aS.out) (fun k8=>?_)
       clear hK K
       try simp only [pm,s0,sS]
       refine wpAnyH_ready (rs:=[6,19]) (by kernel_rfl) (by simp) ?_
       refine ac rfl (fun K hK=>?_) ?_
       ·go_simp
        go_at_call 49
        refine (ratDiv_s W1 S (.slice Ae1 ne1 ce1) (.slice Be1 me1 de1) (.slice A0 n0 c0) (.slice B0 m0 d0) _ (aS.out.fr 0 0 rfl rfl rfl) (aS.out.fr 3 0 rfl rfl rfl)).mono ?_
        rintro e wf2 ⟨ve2,ue2,rfl,ho,hb⟩
        obtain ⟨Ae2,ne2,ce2,rfl⟩:=(ho.at_ 0 rfl).shape3
        obtain ⟨Be2,me2,de2,rfl⟩:=(ho.at_ 1 rfl).shape3
        rw [HW2.out] at ho ⊢
        have aI:=Hd (aS.out.rows ho hb)
        clear aS ho hb
        refine hK.out _ _ (aA _ _ _ _ _ _ aI.out) (fun fU=>?_)
        clear hK K
        try simp only [pm,s0,sS]
        refine wpAnyH_ready (rs:=[11,19]) (by kernel_rfl) (by simp) ?_
        refine ac rfl (fun K hK=>?_) ?_
        ·go_simp
         go_at_call_of 52 (Value.agg #[Value.bool Q.s,q0,q1])
         refine (ratSub_s Q U q0 q1 u0 u1 _ (aI.out.lkA HL.out).q (aI.out.lkA HM.out).q).mono ?_
         rintro e wz1 ⟨vz1,uz1,rfl,ho,hb⟩
         obtain ⟨Az1,nz1,cz1,rfl⟩:=(ho.at_ 0 rfl).shape3
         obtain ⟨Bz1,mz1,dz1,rfl⟩:=(ho.at_ 1 rfl).shape3
         rw [vC.out] at ho ⊢
         have aF:=Hd (aI.out.rows ho hb)
         clear aI ho hb
         refine hK.out _ _ (aA _ _ _ _ _ _ aF.out) (fun cL=>?_)
         clear hK K
         try simp only [pm,s0,sS]
         refine wpAnyH_ready (rs:=[16,19]) (by kernel_rfl) (by simp) ?_
         refine ac rfl (fun K hK=>?_) ?_
         ·go_simp
          go_at_call_of 52 (Value.agg #[Value.bool R.s,r0,r1])
          refine (ratSub_s R T r0 r1 t0 t1 _ (aF.out.lkA HL.out).r (aF.out.lkA HM.out).r).mono ?_
          rintro e wz2 ⟨vz2,uz2,rfl,ho,hb⟩
          obtain ⟨Az2,nz2,cz2,rfl⟩:=(ho.at_ 0 rfl).shape3
          obtain ⟨Bz2,mz2,dz2,rfl⟩:=(ho.at_ 1 rfl).shape3
          rw [sN.out] at ho ⊢
          have aE:=Hd (aF.out.rows ho hb)
          clear aF ho hb
          refine hK.out _ _ (aA _ _ _ _ _ _ aE.out) (fun bJ=>?_)
          clear hK K
          try simp only [pm,s0,sS]
          refine wpAnyH_ready (rs:=[17,19]) (by kernel_rfl) (by simp) ?_
          refine ac rfl (fun K hK=>?_) ?_
          ·go_simp
           go_at_call 51
           refine (l06Squares_f D1 D2 (.slice Az1 nz1 cz1) (.slice Bz1 mz1 dz1) (.slice Az2 nz2 cz2) (.slice Bz2 mz2 dz2) _ (aE.out.fr 1 0 rfl rfl rfl) (aE.out.fr 0 0 rfl rfl rfl)).mono ?_
           rintro e wz3 ⟨vz3,uz3,rfl,ho,hb⟩
           obtain ⟨Az3,nz3,cz3,rfl⟩:=(ho.at_ 0 rfl).shape3
           obtain ⟨Bz3,mz3,dz3,rfl⟩:=(ho.at_ 1 rfl).shape3
           rw [HH.out] at ho ⊢
           have aC:=Hd (aE.out.rows ho hb)
           clear aE ho hb
           refine hK.out _ _ (aA _ _ _ _ _ _ aC.out) (fun aN=>?_)
           clear hK K
           try simp only [pm,s0,sS]
           refine wpAnyH_ready (rs:=[18,19]) (by kernel_rfl) (by simp) ?_
           refine ac rfl (fun K hK=>?_) ?_
           ·go_simp
            go_at_call_of 50 (Value.agg #[Value.bool W2.s,(Value.slice Ae2 ne2 ce2),(Value.slice Be2 me2 de2)])
            refine (ratMul_s W2 H (.slice Ae2 ne2 ce2) (.slice Be2 me2 de2) (.slice Az3 nz3 cz3) (.slice Bz3 mz3 dz3) _ (aC.out.fr 3 0 rfl rfl rfl) (aC.out.fr 0 0 rfl rfl rfl)).mono ?_
            rintro e wf3 ⟨ve3,ue3,rfl,ho,hb⟩
            obtain ⟨Ae3,ne3,ce3,rfl⟩:=(ho.at_ 0 rfl).shape3
            obtain ⟨Be3,me3,de3,rfl⟩:=(ho.at_ 1 rfl).shape3
            rw [HG.out] at ho ⊢
            have aB:=Hd (aC.out.rows ho hb)
            clear aC ho hb
            refine hK.out _ _ (aA _ _ _ _ _ _ aB.out) (fun aJ=>?_)
            clear hK K
            try simp only [pm,s0,sS]
            refine wpAnyH_ready (rs:=[19]) (by kernel_rfl) (by simp) ?_
            refine a1 rfl fun K hK=>?_
            go_simp
            have aD:=Hd (aB.out.allocE [.bool false,.slice none 0 0,.slice none 0 0] 35)
            clear aB
            refine hK.out _ _ (aA _ _ _ _ _ _ aD.out) (fun aK=>?_)
            clear hK K
            try simp only [pm,s0,sS]
            refine wpAnyH_ready (rs:=[20]) (by kernel_rfl) (by simp) ?_
            refine a1 rfl fun K hK=>?_
            rw [if_pos (by rfl)]
            refine wp_store_mid _ _ _ rfl _ _ (List.toArray [.bool G.s,(.slice Ae3 ne3 ce3),(.slice Be3 me3 de3)]) rfl rfl (aD.out.there_ 6 rfl rfl) (size_rat) (all_oneCell_toArray (cs:=[.bool G.s,(.slice Ae3 ne3 ce3),(.slice Be3 me3 de3)]) (List.all_eq_true.mp rfl)) ?_
            simp only [Act.put]
            have aH:=Hd (aD.out.setKit 6 [.bool G.s,(.slice Ae3 ne3 ce3),(.slice Be3 me3 de3)] rfl rfl)
            clear aD
            refine hK.out _ _ (aA _ _ _ _ _ _ aH.out) (fun aL=>?_)
            clear hK K
            try simp only [pm,s0,sS]
            refine wpAnyH_done (by kernel_rfl) ?_ _
            refine NoPanic.normal ?_
            go_wp2_with fail
            go_meet
            refine ⟨_,Ae3,ne3,ce3,Be3,me3,de3,rfl,?_⟩
            exact (((((aH.out.drop 5).drop 4).drop 3).drop 2).drop 1)
           refine ac rfl (fun K hK=>?_) ?_
           ·go_simp
            have aB:=Hd (aC.out.allocE [.bool false,.slice none 0 0,.slice none 0 0] 35)
            clear aC
            refine hK.out _ _ (aA _ _ _ _ _ _ aB.out) (fun aK=>?_)
            clear hK K
            try simp only [pm,s0,sS]
            refine wpAnyH_ready (rs:=[18]) (by kernel_rfl) (by simp) ?_
            refine a1 rfl fun K hK=>?_
            go_simp
            go_at_call_of 50 (Value.agg #[Value.bool W2.s,(Value.slice Ae2 ne2 ce2),(Value.slice Be2 me2 de2)])
            refine (ratMul_s W2 H (.slice Ae2 ne2 ce2) (.slice Be2 me2 de2) (.slice Az3 nz3 cz3) (.slice Bz3 mz3 dz3) _ (aB.out.fr 3 0 rfl rfl rfl) (aB.out.fr 0 0 rfl rfl rfl)).mono ?_
            rintro e wf3 ⟨ve3,ue3,rfl,ho,hb⟩
            obtain ⟨Ae3,ne3,ce3,rfl⟩:=(ho.at_ 0 rfl).shape3
            obtain ⟨Be3,me3,de3,rfl⟩:=(ho.at_ 1 rfl).shape3
            rw [HG.out] at ho ⊢
            have aD:=Hd (aB.out.rows ho hb)
            clear aB ho hb
            refine hK.out _ _ (aA _ _ _ _ _ _ aD.out) (fun aJ=>?_)
            clear hK K
            try simp only [pm,s0,sS]
            refine wpAnyH_ready (rs:=[20]) (by kernel_rfl) (by simp) ?_
            refine a1 rfl fun K hK=>?_
            rw [if_pos (by rfl)]
            refine wp_store_mid _ _ _ rfl _ _ (List.toArray [.bool G.s,(.slice Ae3 ne3 ce3),(.slice Be3 me3 de3)]) rfl rfl (aD.out.there_ 6 rfl rfl) (size_rat) (all_oneCell_toArray (cs:=[.bool G.s,(.slice Ae3 ne3 ce3),(.slice Be3 me3 de3)]) (List.all_eq_true.mp rfl)) ?_
            simp only [Act.put]
            have aH:=Hd (aD.out.setKit 6 [.bool G.s,(.slice Ae3 ne3 ce3),(.slice Be3 me3 de3)] rfl rfl)
            clear aD
            refine hK.out _ _ (aA _ _ _ _ _ _ aH.out) (fun aL=>?_)
            clear hK K
            try simp only [pm,s0,sS]
            refine wpAnyH_done (by kernel_rfl) ?_ _
            refine NoPanic.normal ?_
            go_wp2_with fail
            go_meet
            refine ⟨_,Ae3,ne3,ce3,Be3,me3,de3,rfl,?_⟩
            exact (((((aH.out.drop 5).drop 4).drop 3).drop 2).drop 1)
           exact AllReadyH.nil
          refine ac rfl (fun K hK=>?_) ?_
          ·go_simp
           have aC:=Hd (aE.out.allocE [.bool false,.slice none 0 0,.slice none 0 0] 35)
           clear aE
           refine hK.out _ _ (aA _ _ _ _ _ _ aC.out) (fun aK=>?_)
           clear hK K
           try simp only [pm,s0,sS]
           refine wpAnyH_ready (rs:=[17]) (by kernel_rfl) (by simp) ?_
           refine a1 rfl fun K hK=>?_
           go_simp
           go_at_call 51
           refine (l06Squares_f D1 D2 (.slice Az1 nz1 cz1) (.slice Bz1 mz1 dz1) (.slice Az2 nz2 cz2) (.slice Bz2 mz2 dz2) _ (aC.out.fr 1 0 rfl rfl rfl) (aC.out.fr 0 0 rfl rfl rfl)).mono ?_
           rintro e wz3 ⟨vz3,uz3,rfl,ho,hb⟩
           obtain ⟨Az3,nz3,cz3,rfl⟩:=(ho.at_ 0 rfl).shape3
           obtain ⟨Bz3,mz3,dz3,rfl⟩:=(ho.at_ 1 rfl).shape3
           rw [HH.out] at ho ⊢
           have aB:=Hd (aC.out.rows ho hb)
           clear aC ho hb
           refine hK.out _ _ (aA _ _ _ _ _ _ aB.out) (fun aN=>?_)
           clear hK K
           try simp only [pm,s0,sS]
           refine wpAnyH_ready (rs:=[18]) (by kernel_rfl) (by simp) ?_
           refine a1 rfl fun K hK=>?_
           go_simp
           go_at_call_of 50 (Value.agg #[Value.bool W2.s,(Value.slice Ae2 ne2 ce2),(Value.slice Be2 me2 de2)])
           refine (ratMul_s W2 H (.slice Ae2 ne2 ce2) (.slice Be2 me2 de2) (.slice Az3 nz3 cz3) (.slice Bz3 mz3 dz3) _ (aB.out.fr 3 0 rfl rfl rfl) (aB.out.fr 0 0 rfl rfl rfl)).mono ?_
           rintro e wf3 ⟨ve3,ue3,rfl,ho,hb⟩
           obtain ⟨Ae3,ne3,ce3,rfl⟩:=(ho.at_ 0 rfl).shape3
           obtain ⟨Be3,me3,de3,rfl⟩:=(ho.at_ 1 rfl).shape3
           rw [HG.out] at ho ⊢
           have aD:=Hd (aB.out.rows ho hb)
           clear aB ho hb
           refine hK.out _ _ (aA _ _ _ _ _ _ aD.out) (fun aJ=>?_)
           clear hK K
           try simp only [pm,s0,sS]
           refine wpAnyH_ready (rs:=[20]) (by kernel_rfl) (by simp) ?_
           refine a1 rfl fun K hK=>?_
           rw [if_pos (by rfl)]
           refine wp_store_mid _ _ _ rfl _ _ (List.toArray [.bool G.s,(.slice Ae3 ne3 ce3),(.slice Be3 me3 de3)]) rfl rfl (aD.out.there_ 6 rfl rfl) (size_rat) (all_oneCell_toArray (cs:=[.bool G.s,(.slice Ae3 ne3 ce3),(.slice Be3 me3 de3)]) (List.all_eq_true.mp rfl)) ?_
           simp only [Act.put]
           have aH:=Hd (aD.out.setKit 6 [.bool G.s,(.slice Ae3 ne3 ce3),(.slice Be3 me3 de3)] rfl rfl)
           clear aD
           refine hK.out _ _ (aA _ _ _ _ _ _ aH.out) (fun aL=>?_)
           clear hK K
           try simp only [pm,s0,sS]
           refine wpAnyH_done (by kernel_rfl) ?_ _
           refine NoPanic.normal ?_
           go_wp2_with fail
           go_meet
           refine ⟨_,Ae3,ne3,ce3,Be3,me3,de3,rfl,?_⟩
           exact (((((aH.out.drop 5).drop 4).drop 3).drop 2).drop 1)
          exact AllReadyH.nil
         refine ac rfl (fun K hK=>?_) ?_
         ·go_simp
          have aE:=Hd (aF.out.allocE [.bool false,.slice none 0 0,.slice none 0 0] 35)
          clear aF
          refine hK.out _ _ (aA _ _ _ _ _ _ aE.out) (fun aK=>?_)
          clear hK K
          try simp only [pm,s0,sS]
          refine wpAnyH_ready (rs:=[16]) (by kernel_rfl) (by simp) ?_
          refine a1 rfl fun K hK=>?_
          go_simp
          go_at_call_of 52 (Value.agg #[Value.bool R.s,r0,r1])
          refine (ratSub_s R T r0 r1 t0 t1 _ (aE.out.lkA HL.out).r (aE.out.lkA HM.out).r).mono ?_
          rintro e wz2 ⟨vz2,uz2,rfl,ho,hb⟩
          obtain ⟨Az2,nz2,cz2,rfl⟩:=(ho.at_ 0 rfl).shape3
          obtain ⟨Bz2,mz2,dz2,rfl⟩:=(ho.at_ 1 rfl).shape3
          rw [sN.out] at ho ⊢
          have aC:=Hd (aE.out.rows ho hb)
          clear aE ho hb
          refine hK.out _ _ (aA _ _ _ _ _ _ aC.out) (fun bJ=>?_)
          clear hK K
          try simp only [pm,s0,sS]
          refine wpAnyH_ready (rs:=[17]) (by kernel_rfl) (by simp) ?_
          refine a1 rfl fun K hK=>?_
          go_simp
          go_at_call 51
          refine (l06Squares_f D1 D2 (.slice Az1 nz1 cz1) (.slice Bz1 mz1 dz1) (.slice Az2 nz2 cz2) (.slice Bz2 mz2 dz2) _ (aC.out.fr 1 0 rfl rfl rfl) (aC.out.fr 0 0 rfl rfl rfl)).mono ?_
          rintro e wz3 ⟨vz3,uz3,rfl,ho,hb⟩
          obtain ⟨Az3,nz3,cz3,rfl⟩:=(ho.at_ 0 rfl).shape3
          obtain ⟨Bz3,mz3,dz3,rfl⟩:=(ho.at_ 1 rfl).shape3
          rw [HH.out] at ho ⊢
          have aB:=Hd (aC.out.rows ho hb)
          clear aC ho hb
          refine hK.out _ _ (aA _ _ _ _ _ _ aB.out) (fun aN=>?_)
          clear hK K
          try simp only [pm,s0,sS]
          refine wpAnyH_ready (rs:=[18]) (by kernel_rfl) (by simp) ?_
          refine a1 rfl fun K hK=>?_
          go_simp
          go_at_call_of 50 (Value.agg #[Value.bool W2.s,(Value.slice Ae2 ne2 ce2),(Value.slice Be2 me2 de2)])
          refine (ratMul_s W2 H (.slice Ae2 ne2 ce2) (.slice Be2 me2 de2) (.slice Az3 nz3 cz3) (.slice Bz3 mz3 dz3) _ (aB.out.fr 3 0 rfl rfl rfl) (aB.out.fr 0 0 rfl rfl rfl)).mono ?_
          rintro e wf3 ⟨ve3,ue3,rfl,ho,hb⟩
          obtain ⟨Ae3,ne3,ce3,rfl⟩:=(ho.at_ 0 rfl).shape3
          obtain ⟨Be3,me3,de3,rfl⟩:=(ho.at_ 1 rfl).shape3
          rw [HG.out] at ho ⊢
          have aD:=Hd (aB.out.rows ho hb)
          clear aB ho hb
          refine hK.out _ _ (aA _ _ _ _ _ _ aD.out) (fun aJ=>?_)
          clear hK K
          try simp only [pm,s0,sS]
          refine wpAnyH_ready (rs:=[20]) (by kernel_rfl) (by simp) ?_
          refine a1 rfl fun K hK=>?_
          rw [if_pos (by rfl)]
          refine wp_store_mid _ _ _ rfl _ _ (List.toArray [.bool G.s,(.slice Ae3 ne3 ce3),(.slice Be3 me3 de3)]) rfl rfl (aD.out.there_ 6 rfl rfl) (size_rat) (all_oneCell_toArray (cs:=[.bool G.s,(.slice Ae3 ne3 ce3),(.slice Be3 me3 de3)]) (List.all_eq_true.mp rfl)) ?_
          simp only [Act.put]
          have aH:=Hd (aD.out.setKit 6 [.bool G.s,(.slice Ae3 ne3 ce3),(.slice Be3 me3 de3)] rfl rfl)
          clear aD
          refine hK.out _ _ (aA _ _ _ _ _ _ aH.out) (fun aL=>?_)
          clear hK K
          try simp only [pm,s0,sS]
          refine wpAnyH_done (by kernel_rfl) ?_ _
          refine NoPanic.normal ?_
          go_wp2_with fail
          go_meet
          refine ⟨_,Ae3,ne3,ce3,Be3,me3,de3,rfl,?_⟩
          exact (((((aH.out.drop 5).drop 4).drop 3).drop 2).drop 1)
         exact AllReadyH.nil
        refine ac rfl (fun K hK=>?_) ?_
        ·go_simp
         have aF:=Hd (aI.out.allocE [.bool false,.slice none 0 0,.slice none 0 0] 35)
         clear aI
         refine hK.out _ _ (aA _ _ _ _ _ _ aF.out) (fun aK=>?_)
         clear hK K
         try simp only [pm,s0,sS]
         refine wpAnyH_ready (rs:=[11]) (by kernel_rfl) (by simp) ?_
         refine a1 rfl fun K hK=>?_
         go_simp
         go_at_call_of 52 (Value.agg #[Value.bool Q.s,q0,q1])
         refine (ratSub_s Q U q0 q1 u0 u1 _ (aF.out.lkA HL.out).q (aF.out.lkA HM.out).q).mono ?_
         rintro e wz1 ⟨vz1,uz1,rfl,ho,hb⟩
         obtain ⟨Az1,nz1,cz1,rfl⟩:=(ho.at_ 0 rfl).shape3
         obtain ⟨Bz1,mz1,dz1,rfl⟩:=(ho.at_ 1 rfl).shape3
         rw [vC.out] at ho ⊢
         have aE:=Hd (aF.out.rows ho hb)
         clear aF ho hb
         refine hK.out _ _ (aA _ _ _ _ _ _ aE.out) (fun cL=>?_)
         clear hK K
         try simp only [pm,s0,sS]
         refine wpAnyH_ready (rs:=[16]) (by kernel_rfl) (by simp) ?_
         refine a1 rfl fun K hK=>?_
         go_simp
         go_at_call_of 52 (Value.agg #[Value.bool R.s,r0,r1])
         refine (ratSub_s R T r0 r1 t0 t1 _ (aE.out.lkA HL.out).r (aE.out.lkA HM.out).r).mono ?_
         rintro e wz2 ⟨vz2,uz2,rfl,ho,hb⟩
         obtain ⟨Az2,nz2,cz2,rfl⟩:=(ho.at_ 0 rfl).shape3
         obtain ⟨Bz2,mz2,dz2,rfl⟩:=(ho.at_ 1 rfl).shape3
         rw [sN.out] at ho ⊢
         have aC:=Hd (aE.out.rows ho hb)
         clear aE ho hb
         refine hK.out _ _ (aA _ _ _ _ _ _ aC.out) (fun bJ=>?_)
         clear hK K
         try simp only [pm,s0,sS]
         refine wpAnyH_ready (rs:=[17]) (by kernel_rfl) (by simp) ?_
         refine a1 rfl fun K hK=>?_
         go_simp
         go_at_call 51
         refine (l06Squares_f D1 D2 (.slice Az1 nz1 cz1) (.slice Bz1 mz1 dz1) (.slice Az2 nz2 cz2) (.slice Bz2 mz2 dz2) _ (aC.out.fr 1 0 rfl rfl rfl) (aC.out.fr 0 0 rfl rfl rfl)).mono ?_
         rintro e wz3 ⟨vz3,uz3,rfl,ho,hb⟩
         obtain ⟨Az3,nz3,cz3,rfl⟩:=(ho.at_ 0 rfl).shape3
         obtain ⟨Bz3,mz3,dz3,rfl⟩:=(ho.at_ 1 rfl).shape3
         rw [HH.out] at ho ⊢
         have aB:=Hd (aC.out.rows ho hb)
         clear aC ho hb
         refine hK.out _ _ (aA _ _ _ _ _ _ aB.out) (fun aN=>?_)
         clear hK K
         try simp only [pm,s0,sS]
         refine wpAnyH_ready (rs:=[18]) (by kernel_rfl) (by simp) ?_
         refine a1 rfl fun K hK=>?_
         go_simp
         go_at_call_of 50 (Value.agg #[Value.bool W2.s,(Value.slice Ae2 ne2 ce2),(Value.slice Be2 me2 de2)])
         refine (ratMul_s W2 H (.slice Ae2 ne2 ce2) (.slice Be2 me2 de2) (.slice Az3 nz3 cz3) (.slice Bz3 mz3 dz3) _ (aB.out.fr 3 0 rfl rfl rfl) (aB.out.fr 0 0 rfl rfl rfl)).mono ?_
         rintro e wf3 ⟨ve3,ue3,rfl,ho,hb⟩
         obtain ⟨Ae3,ne3,ce3,rfl⟩:=(ho.at_ 0 rfl).shape3
         obtain ⟨Be3,me3,de3,rfl⟩:=(ho.at_ 1 rfl).shape3
         rw [HG.out] at ho ⊢
         have aD:=Hd (aB.out.rows ho hb)
         clear aB ho hb
         refine hK.out _ _ (aA _ _ _ _ _ _ aD.out) (fun aJ=>?_)
         clear hK K
         try simp only [pm,s0,sS]
         refine wpAnyH_ready (rs:=[20]) (by kernel_rfl) (by simp) ?_
         refine a1 rfl fun K hK=>?_
         rw [if_pos (by rfl)]
         refine wp_store_mid _ _ _ rfl _ _ (List.toArray [.bool G.s,(.slice Ae3 ne3 ce3),(.slice Be3 me3 de3)]) rfl rfl (aD.out.there_ 6 rfl rfl) (size_rat) (all_oneCell_toArray (cs:=[.bool G.s,(.slice Ae3 ne3 ce3),(.slice Be3 me3 de3)]) (List.all_eq_true.mp rfl)) ?_
         simp only [Act.put]
         have aH:=Hd (aD.out.setKit 6 [.bool G.s,(.slice Ae3 ne3 ce3),(.slice Be3 me3 de3)] rfl rfl)
         clear aD
         refine hK.out _ _ (aA _ _ _ _ _ _ aH.out) (fun aL=>?_)
         clear hK K
         try simp only [pm,s0,sS]
         refine wpAnyH_done (by kernel_rfl) ?_ _
         refine NoPanic.normal ?_
         go_wp2_with fail
         go_meet
         refine ⟨_,Ae3,ne3,ce3,Be3,me3,de3,rfl,?_⟩
         exact (((((aH.out.drop 5).drop 4).drop 3).drop 2).drop 1)
        exact AllReadyH.nil
       refine ac rfl (fun K hK=>?_) ?_
       ·go_simp
        have aI:=Hd (aS.out.allocE [.bool false,.slice none 0 0,.slice none 0 0] 35)
        clear aS
        refine hK.out _ _ (aA _ _ _ _ _ _ aI.out) (fun aK=>?_)
        clear hK K
        try simp only [pm,s0,sS]
        refine wpAnyH_ready (rs:=[6]) (by kernel_rfl) (by simp) ?_
        refine a1 rfl fun K hK=>?_
        go_simp
        go_at_call 49
        refine (ratDiv_s W1 S (.slice Ae1 ne1 ce1) (.slice Be1 me1 de1) (.slice A0 n0 c0) (.slice B0 m0 d0) _ (aI.out.fr 0 0 rfl rfl rfl) (aI.out.fr 3 0 rfl rfl rfl)).mono ?_
        rintro e wf2 ⟨ve2,ue2,rfl,ho,hb⟩
        obtain ⟨Ae2,ne2,ce2,rfl⟩:=(ho.at_ 0 rfl).shape3
        obtain ⟨Be2,me2,de2,rfl⟩:=(ho.at_ 1 rfl).shape3
        rw [HW2.out] at ho ⊢
        have aF:=Hd (aI.out.rows ho hb)
        clear aI ho hb
        refine hK.out _ _ (aA _ _ _ _ _ _ aF.out) (fun fU=>?_)
        clear hK K
        try simp only [pm,s0,sS]
        refine wpAnyH_ready (rs:=[11]) (by kernel_rfl) (by simp) ?_
        refine a1 rfl fun K hK=>?_
        go_simp
        go_at_call_of 52 (Value.agg #[Value.bool Q.s,q0,q1])
        refine (ratSub_s Q U q0 q1 u0 u1 _ (aF.out.lkA HL.out).q (aF.out.lkA HM.out).q).mono ?_
        rintro e wz1 ⟨vz1,uz1,rfl,ho,hb⟩
        obtain ⟨Az1,nz1,cz1,rfl⟩:=(ho.at_ 0 rfl).shape3
        obtain ⟨Bz1,mz1,dz1,rfl⟩:=(ho.at_ 1 rfl).shape3
        rw [vC.out] at ho ⊢
        have aE:=Hd (aF.out.rows ho hb)
        clear aF ho hb
        refine hK.out _ _ (aA _ _ _ _ _ _ aE.out) (fun cL=>?_)
        clear hK K
        try simp only [pm,s0,sS]
        refine wpAnyH_ready (rs:=[16]) (by kernel_rfl) (by simp) ?_
        refine a1 rfl fun K hK=>?_
        go_simp
        go_at_call_of 52 (Value.agg #[Value.bool R.s,r0,r1])
        refine (ratSub_s R T r0 r1 t0 t1 _ (aE.out.lkA HL.out).r (aE.out.lkA HM.out).r).mono ?_
        rintro e wz2 ⟨vz2,uz2,rfl,ho,hb⟩
        obtain ⟨Az2,nz2,cz2,rfl⟩:=(ho.at_ 0 rfl).shape3
        obtain ⟨Bz2,mz2,dz2,rfl⟩:=(ho.at_ 1 rfl).shape3
        rw [sN.out] at ho ⊢
        have aC:=Hd (aE.out.rows ho hb)
        clear aE ho hb
        refine hK.out _ _ (aA _ _ _ _ _ _ aC.out) (fun bJ=>?_)
        clear hK K
        try simp only [pm,s0,sS]
        refine wpAnyH_ready (rs:=[17]) (by kernel_rfl) (by simp) ?_
        refine a1 rfl fun K hK=>?_
        go_simp
        go_at_call 51
        refine (l06Squares_f D1 D2 (.slice Az1 nz1 cz1) (.slice Bz1 mz1 dz1) (.slice Az2 nz2 cz2) (.slice Bz2 mz2 dz2) _ (aC.out.fr 1 0 rfl rfl rfl) (aC.out.fr 0 0 rfl rfl rfl)).mono ?_
        rintro e wz3 ⟨vz3,uz3,rfl,ho,hb⟩
        obtain ⟨Az3,nz3,cz3,rfl⟩:=(ho.at_ 0 rfl).shape3
        obtain ⟨Bz3,mz3,dz3,rfl⟩:=(ho.at_ 1 rfl).shape3
        rw [HH.out] at ho ⊢
        have aB:=Hd (aC.out.rows ho hb)
        clear aC ho hb
        refine hK.out _ _ (aA _ _ _ _ _ _ aB.out) (fun aN=>?_)
        clear hK K
        try simp only [pm,s0,sS]
        refine wpAnyH_ready (rs:=[18]) (by kernel_rfl) (by simp) ?_
        refine a1 rfl fun K hK=>?_
        go_simp
        go_at_call_of 50 (Value.agg #[Value.bool W2.s,(Value.slice Ae2 ne2 ce2),(Value.slice Be2 me2 de2)])
        refine (ratMul_s W2 H (.slice Ae2 ne2 ce2) (.slice Be2 me2 de2) (.slice Az3 nz3 cz3) (.slice Bz3 mz3 dz3) _ (aB.out.fr 3 0 rfl rfl rfl) (aB.out.fr 0 0 rfl rfl rfl)).mono ?_
        rintro e wf3 ⟨ve3,ue3,rfl,ho,hb⟩
        obtain ⟨Ae3,ne3,ce3,rfl⟩:=(ho.at_ 0 rfl).shape3
        obtain ⟨Be3,me3,de3,rfl⟩:=(ho.at_ 1 rfl).shape3
        rw [HG.out] at ho ⊢
        have aD:=Hd (aB.out.rows ho hb)
        clear aB ho hb
        refine hK.out _ _ (aA _ _ _ _ _ _ aD.out) (fun aJ=>?_)
        clear hK K
        try simp only [pm,s0,sS]
        refine wpAnyH_ready (rs:=[20]) (by kernel_rfl) (by simp) ?_
        refine a1 rfl fun K hK=>?_
        rw [if_pos (by rfl)]
        refine wp_store_mid _ _ _ rfl _ _ (List.toArray [.bool G.s,(.slice Ae3 ne3 ce3),(.slice Be3 me3 de3)]) rfl rfl (aD.out.there_ 6 rfl rfl) (size_rat) (all_oneCell_toArray (cs:=[.bool G.s,(.slice Ae3 ne3 ce3),(.slice Be3 me3 de3)]) (List.all_eq_true.mp rfl)) ?_
        simp only [Act.put]
        have aH:=Hd (aD.out.setKit 6 [.bool G.s,(.slice Ae3 ne3 ce3),(.slice Be3 me3 de3)] rfl rfl)
        clear aD
        refine hK.out _ _ (aA _ _ _ _ _ _ aH.out) (fun aL=>?_)
        clear hK K
        try simp only [pm,s0,sS]
        refine wpAnyH_done (by kernel_rfl) ?_ _
        refine NoPanic.normal ?_
        go_wp2_with fail
        go_meet
        refine ⟨_,Ae3,ne3,ce3,Be3,me3,de3,rfl,?_⟩
        exact (((((aH.out.drop 5).drop 4).drop 3).drop 2).drop 1)
       exact AllReadyH.nil
      refine ac rfl (fun K hK=>?_) ?_
      ·go_simp
       have aS:=Hd (b4.out.drew.allocE [.bool false,.slice none 0 0,.slice none 0 0] 35)
       clear b4
       refine hK.out _ _ (aA _ _ _ _ _ _ aS.out) (fun aK=>?_)
       clear hK K
       try simp only [pm,s0,sS]
       refine wpAnyH_ready (rs:=[4]) (by kernel_rfl) (by simp) ?_
       refine a1 rfl fun K hK=>?_
       go_simp
       go_at_call_of 50 (Value.agg #[Value.bool P.s,p0,p1])
       refine (ratMul_s P V p0 p1 v0 v1 _ (aS.out.lkA HL.out).p (aS.out.lkA HM.out).p).mono ?_
       rintro e wf1 ⟨ve1,ue1,rfl,ho,hb⟩
       obtain ⟨Ae1,ne1,ce1,rfl⟩:=(ho.at_ 0 rfl).shape3
       obtain ⟨Be1,me1,de1,rfl⟩:=(ho.at_ 1 rfl).shape3
       rw [HW1.out] at ho ⊢
       have aI:=Hd (aS.out.rows ho hb)
       clear aS ho hb
       refine hK.out _ _ (aA _ _ _ _ _ _ aI.out) (fun k8=>?_)
       clear hK K
       try simp only [pm,s0,sS]
       refine wpAnyH_ready (rs:=[6]) (by kernel_rfl) (by simp) ?_
       refine a1 rfl fun K hK=>?_
       go_simp
       go_at_call 49
       refine (ratDiv_s W1 S (.slice Ae1 ne1 ce1) (.slice Be1 me1 de1) (.slice A0 n0 c0) (.slice B0 m0 d0) _ (aI.out.fr 0 0 rfl rfl rfl) (aI.out.fr 3 0 rfl rfl rfl)).mono ?_
       rintro e wf2 ⟨ve2,ue2,rfl,ho,hb⟩
       obtain ⟨Ae2,ne2,ce2,rfl⟩:=(ho.at_ 0 rfl).shape3
       obtain ⟨Be2,me2,de2,rfl⟩:=(ho.at_ 1 rfl).shape3
       rw [HW2.out] at ho ⊢
       have aF:=Hd (aI.out.rows ho hb)
       clear aI ho hb
       refine hK.out _ _ (aA _ _ _ _ _ _ aF.out) (fun fU=>?_)
       clear hK K
       try simp only [pm,s0,sS]
       refine wpAnyH_ready (rs:=[11]) (by kernel_rfl) (by simp) ?_
       refine a1 rfl fun K hK=>?_
       go_simp
       go_at_call_of 52 (Value.agg #[Value.bool Q.s,q0,q1])
       refine (ratSub_s Q U q0 q1 u0 u1 _ (aF.out.lkA HL.out).q (aF.out.lkA HM.out).q).mono ?_
       rintro e wz1 ⟨vz1,uz1,rfl,ho,hb⟩
       obtain ⟨Az1,nz1,cz1,rfl⟩:=(ho.at_ 0 rfl).shape3
       obtain ⟨Bz1,mz1,dz1,rfl⟩:=(ho.at_ 1 rfl).shape3
       rw [vC.out] at ho ⊢
       have aE:=Hd (aF.out.rows ho hb)
       clear aF ho hb
       refine hK.out _ _ (aA _ _ _ _ _ _ aE.out) (fun cL=>?_)
       clear hK K
       try simp only [pm,s0,sS]
       refine wpAnyH_ready (rs:=[16]) (by kernel_rfl) (by simp) ?_
       refine a1 rfl fun K hK=>?_
       go_simp
       go_at_call_of 52 (Value.agg #[Value.bool R.s,r0,r1])
       refine (ratSub_s R T r0 r1 t0 t1 _ (aE.out.lkA HL.out).r (aE.out.lkA HM.out).r).mono ?_
       rintro e wz2 ⟨vz2,uz2,rfl,ho,hb⟩
       obtain ⟨Az2,nz2,cz2,rfl⟩:=(ho.at_ 0 rfl).shape3
       obtain ⟨Bz2,mz2,dz2,rfl⟩:=(ho.at_ 1 rfl).shape3
       rw [sN.out] at ho ⊢
       have aC:=Hd (aE.out.rows ho hb)
       clear aE ho hb
       refine hK.out _ _ (aA _ _ _ _ _ _ aC.out) (fun bJ=>?_)
       clear hK K
       try simp only [pm,s0,sS]
       refine wpAnyH_ready (rs:=[17]) (by kernel_rfl) (by simp) ?_
       refine a1 rfl fun K hK=>?_
       go_simp
       go_at_call 51
       refine (l06Squares_f D1 D2 (.slice Az1 nz1 cz1) (.slice Bz1 mz1 dz1) (.slice Az2 nz2 cz2) (.slice Bz2 mz2 dz2) _ (aC.out.fr 1 0 rfl rfl rfl) (aC.out.fr 0 0 rfl rfl rfl)).mono ?_
       rintro e wz3 ⟨vz3,uz3,rfl,ho,hb⟩
       obtain ⟨Az3,nz3,cz3,rfl⟩:=(ho.at_ 0 rfl).shape3
       obtain ⟨Bz3,mz3,dz3,rfl⟩:=(ho.at_ 1 rfl).shape3
       rw [HH.out] at ho ⊢
       have aB:=Hd (aC.out.rows ho hb)
       clear aC ho hb
       refine hK.out _ _ (aA _ _ _ _ _ _ aB.out) (fun aN=>?_)
       clear hK K
       try simp only [pm,s0,sS]
       refine wpAnyH_ready (rs:=[18]) (by kernel_rfl) (by simp) ?_
       refine a1 rfl fun K hK=>?_
       go_simp
       go_at_call_of 50 (Value.agg #[Value.bool W2.s,(Value.slice Ae2 ne2 ce2),(Value.slice Be2 me2 de2)])
       refine (ratMul_s W2 H (.slice Ae2 ne2 ce2) (.slice Be2 me2 de2) (.slice Az3 nz3 cz3) (.slice Bz3 mz3 dz3) _ (aB.out.fr 3 0 rfl rfl rfl) (aB.out.fr 0 0 rfl rfl rfl)).mono ?_
       rintro e wf3 ⟨ve3,ue3,rfl,ho,hb⟩
       obtain ⟨Ae3,ne3,ce3,rfl⟩:=(ho.at_ 0 rfl).shape3
       obtain ⟨Be3,me3,de3,rfl⟩:=(ho.at_ 1 rfl).shape3
       rw [HG.out] at ho ⊢
       have aD:=Hd (aB.out.rows ho hb)
       clear aB ho hb
       refine hK.out _ _ (aA _ _ _ _ _ _ aD.out) (fun aJ=>?_)
       clear hK K
       try simp only [pm,s0,sS]
       refine wpAnyH_ready (rs:=[20]) (by kernel_rfl) (by simp) ?_
       refine a1 rfl fun K hK=>?_
       rw [if_pos (by rfl)]
       refine wp_store_mid _ _ _ rfl _ _ (List.toArray [.bool G.s,(.slice Ae3 ne3 ce3),(.slice Be3 me3 de3)]) rfl rfl (aD.out.there_ 6 rfl rfl) (size_rat) (all_oneCell_toArray (cs:=[.bool G.s,(.slice Ae3 ne3 ce3),(.slice Be3 me3 de3)]) (List.all_eq_true.mp rfl)) ?_
       simp only [Act.put]
       have aH:=Hd (aD.out.setKit 6 [.bool G.s,(.slice Ae3 ne3 ce3),(.slice Be3 me3 de3)] rfl rfl)
       clear aD
       refine hK.out _ _ (aA _ _ _ _ _ _ aH.out) (fun aL=>?_)
       clear hK K
       try simp only [pm,s0,sS]
       refine wpAnyH_done (by kernel_rfl) ?_ _
       refine NoPanic.normal ?_
       go_wp2_with fail
       go_meet
       refine ⟨_,Ae3,ne3,ce3,Be3,me3,de3,rfl,?_⟩
       exact (((((aH.out.drop 5).drop 4).drop 3).drop 2).drop 1)
      exact AllReadyH.nil
     obtain ⟨vF,Ae3,ne3,ce3,Be3,me3,de3,rfl,hst⟩:=hcut
     have aM:=Hd hst
     clear hst b4
     have qR:=aM.out.ne 0 6 rfl rfl (by decide)
     have qS:=aM.out.ne 6 0 rfl rfl (by decide)
     have qT:=aM.out.ne 1 6 rfl rfl (by decide)
     have qU:=aM.out.ne 6 1 rfl rfl (by decide)
     have fV:=aM.out.ne 2 6 rfl rfl (by decide)
     have fW:=aM.out.ne 6 2 rfl rfl (by decide)
     have fX:=aM.out.ne 3 6 rfl rfl (by decide)
     have fY:=aM.out.ne 6 3 rfl rfl (by decide)
     have dD:=aM.out.ne 4 6 rfl rfl (by decide)
     have dE:=aM.out.ne 6 4 rfl rfl (by decide)
     have k9:=aM.out.ne 5 6 rfl rfl (by decide)
     have lA:=aM.out.ne 6 5 rfl rfl (by decide)
     obtain ⟨wk,hwk⟩ : ∃ u,wc = u:=⟨_,rfl⟩
     rw [hwk] at aM ⊢
     clear hwk
     clear eQ eR c4 eS eT c6 eU eV f3 dL dP fV eW eZ f4 dN dR fX c5 c7 dM dO cO dD dQ dS cP fW fY dE
     have u9:=Hd (aM.out.dropBox 2)
     clear aM
     have vA:=Hd (u9.out.dropBox 2)
     clear u9
     have vB:=Hd (vA.out.dropBox 2)
     clear vA
     have eE:=Hd (show St w wk [(w.heap.size + 1 + 1 + 1,[.bool false,.slice none 0 0,.slice none 0 0]),(w.heap.size + 1 + 1,[.int .i64 0,.int .i64 0,.bool false,.slice none 0 0,.slice none 0 0,.bool false,.slice none 0 0,.slice none 0 0,.bool false,.slice none 0 0,.slice none 0 0]),(wb.heap.size,[.int .i64 A,.int .i64 B,.bool S.s,(.slice A0 n0 c0),(.slice B0 m0 d0),.bool X.s,(.slice Ax4 nx4 cx4),(.slice Bx4 mx4 dx4),.bool Y.s,(.slice Ay4 ny4 cy4),(.slice By4 my4 dy4)]),(vF,[.bool G.s,(.slice Ae3 ne3 ce3),(.slice Be3 me3 de3)])] [[((.slice Ae3 ne3 ce3),ints G.xs),((.slice Be3 me3 de3),ints G.ys)],[((.slice Ay4 ny4 cy4),ints Y.xs),((.slice By4 my4 dy4),ints Y.ys)],[((.slice Ax4 nx4 cx4),ints X.xs),((.slice Bx4 mx4 dx4),ints X.ys)],[((.slice A0 n0 c0),ints S.xs),((.slice B0 m0 d0),ints S.ys)]] from vB.out)
     clear vB
     obtain ⟨aT,aU,aV,aW,aX,aY,aZ,a0,a2,a3,aO⟩:=eE.out.c11 2 rfl
     go_wp2_with fail
     refine (isValidLink_s A B S X Y (.slice A0 n0 c0) (.slice B0 m0 d0) (.slice Ax4 nx4 cx4) (.slice Bx4 mx4 dx4) (.slice Ay4 ny4 cy4) (.slice By4 my4 dy4) _ ⟨(eE.out.fr 3 0 rfl rfl rfl),(eE.out.fr 2 0 rfl rfl rfl),(eE.out.fr 1 0 rfl rfl rfl)⟩).mono ?_
     rintro e wh ⟨rfl,hb⟩
     have cM:=Hd (eE.out.call hb)
     clear eE
     clear hb
     by_cases h9 : okK A B S X Y = true
     ·rw [h9]
      have H9:=Hd h9
      clear h9
      clear aT aU aV aW aX aY aZ a0 a2 a3 aO
      obtain ⟨b5,b6,b7⟩:=cM.out.c3 3 rfl
      go_wp2_with fail
      refine (ratOk_s G (.slice Ae3 ne3 ce3) (.slice Be3 me3 de3) _ (cM.out.fr 0 0 rfl rfl rfl)).mono ?_
      rintro e wi ⟨rfl,hb⟩
      have aG:=Hd (cM.out.call hb)
      clear cM
      clear hb
      by_cases h8 : G.ok = true
      ·have HY:=Hd (show ok = true by rw [← HOK.out,H9.out,h8]; rfl)
       rw [h8]
       clear h8
       clear b5 b6 b7
       obtain ⟨iL,iM,iN,iO,iP,iQ,iR,iS,iT,iU,gR⟩:=aG.out.c11 2 rfl
       obtain ⟨lB,lC,lD⟩:=aG.out.c3 3 rfl
       obtain ⟨b8,a4,b9,a5,cA,a6,cB,a7,cC,a8,cD,a9,cE,bA,cF,bB,cG,bC,cH,bD,bE,aP⟩:=aG.out.g11 1 rfl
       obtain ⟨cI,bF,cJ,bG,cK,bH⟩:=aG.out.g3 0 rfl
       go_wp2
       go_region
       all_goals go_wp2_with fail
       all_goals have hr0:=aG.out.cell 1 0 rfl rfl
       all_goals have hr1:=aG.out.cell 1 1 rfl rfl
       all_goals have hr2:=aG.out.cell 1 2 rfl rfl
       all_goals have hr3:=aG.out.cell 1 3 rfl rfl
       all_goals have hr4:=aG.out.cell 1 4 rfl rfl
       all_goals have hr5:=aG.out.cell 1 5 rfl rfl
       all_goals have hr6:=aG.out.cell 1 6 rfl rfl
       all_goals have hr7:=aG.out.cell 1 7 rfl rfl
       all_goals have hr8:=aG.out.cell 1 8 rfl rfl
       all_goals have hr9:=aG.out.cell 1 9 rfl rfl
       all_goals have hr10:=aG.out.cell 1 10 rfl rfl
       all_goals have hs0:=aG.out.cell 0 0 rfl rfl
       all_goals have hs1:=aG.out.cell 0 1 rfl rfl
       all_goals have hs2:=aG.out.cell 0 2 rfl rfl
       all_goals refine bodyPost_ret (v:=.tuple #[.agg #[.int .i64 A,.int .i64 B,.bool S.s,(.slice A0 n0 c0),(.slice B0 m0 d0),.bool X.s,(.slice Ax4 nx4 cx4),(.slice Bx4 mx4 dx4),.bool Y.s,(.slice Ay4 ny4 cy4),(.slice By4 my4 dy4)],.agg #[.bool G.s,(.slice Ae3 ne3 ce3),(.slice Be3 me3 de3)],.bool true]) (by simp [results,Tryz.results26,go_sem,hr0,hr1,hr2,hr3,hr4,hr5,hr6,hr7,hr8,hr9,hr10,hs0,hs1,hs2]) rfl ?_
       all_goals have SR0:=((aG.out.setAll 1 [.int .i64 A,.int .i64 B,.bool S.s,(.slice A0 n0 c0),(.slice B0 m0 d0),.bool X.s,(.slice Ax4 nx4 cx4),(.slice Bx4 mx4 dx4),.bool Y.s,(.slice Ay4 ny4 cy4),(.slice By4 my4 dy4)] rfl rfl).setAll 0 [.bool G.s,(.slice Ae3 ne3 ce3),(.slice Be3 me3 de3)] rfl rfl)
       all_goals simp only [setCells,Nat.reduceAdd,Nat.zero_add] at SR0
       all_goals have SR:=Hd SR0.drew
       all_goals exact OwnMG.yes HY.out ⟨_,_,_,_,_,_,_,_,rfl,SR.out.pick [3,2,1,0] [[((.slice A0 n0 c0),ints S.xs),((.slice B0 m0 d0),ints S.ys)],[((.slice Ax4 nx4 cx4),ints X.xs),((.slice Bx4 mx4 dx4),ints X.ys)],[((.slice Ay4 ny4 cy4),ints Y.xs),((.slice By4 my4 dy4),ints Y.ys)],[((.slice Ae3 ne3 ce3),ints G.xs),((.slice Be3 me3 de3),ints G.ys)]] (by decide) rfl,SR.out.below⟩
      ·rw [Bool.not_eq_true] at h8
       have HNO:=Hd (show ok = false by rw [← HOK.out,h8,Bool.and_false])
       rw [h8]
       clear h8
       clear b5 b6 b7
       obtain ⟨b8,a4,b9,a5,cA,a6,cB,a7,cC,a8,cD,a9,cE,bA,cF,bB,cG,bC,cH,bD,bE,aP⟩:=aG.out.g11 1 rfl
       obtain ⟨cI,bF,cJ,bG,cK,bH⟩:=aG.out.g3 0 rfl
       go_wp2
       have SR:=Hd ((aG.out.setAll 1 [.int .i64 0,.int .i64 0,.bool false,.slice none 0 0,.slice none 0 0,.bool false,.slice none 0 0,.slice none 0 0,.bool false,.slice none 0 0,.slice none 0 0] rfl rfl).setAll 0 [.bool false,.slice none 0 0,.slice none 0 0] rfl rfl)
       obtain ⟨hr0,hr1,hr2,hr3,hr4,hr5,hr6,hr7,hr8,hr9,hr10⟩:=aG.out.c11 1 rfl
       obtain ⟨hs0,hs1,hs2⟩:=aG.out.c3 0 rfl
       exact bodyPost_ret (v:=.tuple #[.agg #[.int .i64 0,.int .i64 0,.bool false,.slice none 0 0,.slice none 0 0,.bool false,.slice none 0 0,.slice none 0 0,.bool false,.slice none 0 0,.slice none 0 0],.agg #[.bool false,.slice none 0 0,.slice none 0 0],.bool false]) (by simp [results,Tryz.results26,go_sem,hr0,hr1,hr2,hr3,hr4,hr5,hr6,hr7,hr8,hr9,hr10,hs0,hs1,hs2]) rfl (OwnMG.no HNO.out SR.out)
     ·rw [Bool.not_eq_true] at h9
      have HNO:=Hd (show ok = false by rw [← HOK.out,h9,Bool.false_and])
      rw [h9]
      clear h9
      clear aT aU aV aW aX aY aZ a0 a2 a3 aO
      obtain ⟨b8,a4,b9,a5,cA,a6,cB,a7,cC,a8,cD,a9,cE,bA,cF,bB,cG,bC,cH,bD,bE,aP⟩:=cM.out.g11 1 rfl
      obtain ⟨cI,bF,cJ,bG,cK,bH⟩:=cM.out.g3 0 rfl
      go_wp2
      have SR:=Hd ((cM.out.setAll 1 [.int .i64 0,.int .i64 0,.bool false,.slice none 0 0,.slice none 0 0,.bool false,.slice none 0 0,.slice none 0 0,.bool false,.slice none 0 0,.slice none 0 0] rfl rfl).setAll 0 [.bool false,.slice none 0 0,.slice none 0 0] rfl rfl)
      obtain ⟨hr0,hr1,hr2,hr3,hr4,hr5,hr6,hr7,hr8,hr9,hr10⟩:=cM.out.c11 1 rfl
      obtain ⟨hs0,hs1,hs2⟩:=cM.out.c3 0 rfl
      exact bodyPost_ret (v:=.tuple #[.agg #[.int .i64 0,.int .i64 0,.bool false,.slice none 0 0,.slice none 0 0,.bool false,.slice none 0 0,.slice none 0 0,.bool false,.slice none 0 0,.slice none 0 0],.agg #[.bool false,.slice none 0 0,.slice none 0 0],.bool false]) (by simp [results,Tryz.results26,go_sem,hr0,hr1,hr2,hr3,hr4,hr5,hr6,hr7,hr8,hr9,hr10,hs0,hs1,hs2]) rfl (OwnMG.no HNO.out SR.out)
    ·have HNO:=Hd (mg_no (A:=A) (B:=B) (C:=C) (E:=E) (P:=P) (Q:=Q) (R:=R) (V:=V) (U:=U) (T:=T) (.inr (.inr (.inr h4))))
     subst h3
     go_enter Tryz.func26,Tryz.ntmps26
     go_wp2_with fail
     refine (isValidLink_s A B P Q R p0 p1 q0 q1 r0 r1 _ (c1.out.lkA HL.out)).mono ?_
     rintro e w1 ⟨rfl,hb⟩
     have gS:=Hd (c1.out.call hb)
     clear c1
     clear hb
     rw [H1.out]
     obtain ⟨qV,qW,qX,qY,qZ,q2,q3,q4,q5,q6,lE⟩:=gS.out.c11 2 rfl
     go_wp2_with fail
     refine (isValidLink_s A E V U T v0 v1 u0 u1 t0 t1 _ (gS.out.lkA HM.out)).mono ?_
     rintro e w2 ⟨rfl,hb⟩
     have dF:=Hd (gS.out.call hb)
     clear gS
     clear hb
     rw [H2.out]
     obtain ⟨q7,q8,q9,rA,rB,rC,rD,rE,rF,rG,lF⟩:=dF.out.c11 3 rfl
     obtain ⟨rH,rI,rJ,rK,rL,rM,rN,rO,rP,rQ,lG⟩:=dF.out.c11 2 rfl
     have g1 : (A != A) = false:=by simp
     have g2 : (B != E) = true:=by simpa using h4
     obtain ⟨lH,iV,lI,iW,lJ,iX,lK,iY,lL,iZ,lM,i0,lN,i1,lO,i2,lP,i3,lQ,i4,i5,gT⟩:=dF.out.g11 1 rfl
     obtain ⟨lR,i6,lS,i7,lT,i8⟩:=dF.out.g3 0 rfl
     go_wp2
     have SR:=Hd ((dF.out.setAll 1 [.int .i64 0,.int .i64 0,.bool false,.slice none 0 0,.slice none 0 0,.bool false,.slice none 0 0,.slice none 0 0,.bool false,.slice none 0 0,.slice none 0 0] rfl rfl).setAll 0 [.bool false,.slice none 0 0,.slice none 0 0] rfl rfl)
     obtain ⟨hr0,hr1,hr2,hr3,hr4,hr5,hr6,hr7,hr8,hr9,hr10⟩:=dF.out.c11 1 rfl
     obtain ⟨hs0,hs1,hs2⟩:=dF.out.c3 0 rfl
     exact bodyPost_ret (v:=.tuple #[.agg #[.int .i64 0,.int .i64 0,.bool false,.slice none 0 0,.slice none 0 0,.bool false,.slice none 0 0,.slice none 0 0,.bool false,.slice none 0 0,.slice none 0 0],.agg #[.bool false,.slice none 0 0,.slice none 0 0],.bool false]) (by simp [results,Tryz.results26,go_sem,hr0,hr1,hr2,hr3,hr4,hr5,hr6,hr7,hr8,hr9,hr10,hs0,hs1,hs2]) rfl (OwnMG.no HNO.out SR.out)
   ·have HNO:=Hd (mg_no (A:=A) (B:=B) (C:=C) (E:=E) (P:=P) (Q:=Q) (R:=R) (V:=V) (U:=U) (T:=T) (.inr (.inr (.inl h3))))
    go_enter Tryz.func26,Tryz.ntmps26
    go_wp2_with fail
    refine (isValidLink_s A B P Q R p0 p1 q0 q1 r0 r1 _ (c1.out.lkA HL.out)).mono ?_
    rintro e w1 ⟨rfl,hb⟩
    have gU:=Hd (c1.out.call hb)
    clear c1
    clear hb
    rw [H1.out]
    obtain ⟨rR,rS,rT,rU,rV,rW,rX,rY,rZ,r2,lU⟩:=gU.out.c11 2 rfl
    go_wp2_with fail
    refine (isValidLink_s C E V U T v0 v1 u0 u1 t0 t1 _ (gU.out.lkA HM.out)).mono ?_
    rintro e w2 ⟨rfl,hb⟩
    have dG:=Hd (gU.out.call hb)
    clear gU
    clear hb
    rw [H2.out]
    obtain ⟨r3,r4,r5,r6,r7,r8,r9,sA,sB,sC,lV⟩:=dG.out.c11 3 rfl
    obtain ⟨sD,sE,sF,sG,sH,sI,sJ,sK,sL,sM,lW⟩:=dG.out.c11 2 rfl
    have g1 : (A != C) = true:=by simpa using h3
    obtain ⟨lX,i9,lY,jA,lZ,jB,l0,jC,l1,jD,l2,jE,l3,jF,l4,jG,l5,jH,l6,jI,jJ,gV⟩:=dG.out.g11 1 rfl
    obtain ⟨l7,jK,l8,jL,l9,jM⟩:=dG.out.g3 0 rfl
    go_wp2
    have SR:=Hd ((dG.out.setAll 1 [.int .i64 0,.int .i64 0,.bool false,.slice none 0 0,.slice none 0 0,.bool false,.slice none 0 0,.slice none 0 0,.bool false,.slice none 0 0,.slice none 0 0] rfl rfl).setAll 0 [.bool false,.slice none 0 0,.slice none 0 0] rfl rfl)
    obtain ⟨hr0,hr1,hr2,hr3,hr4,hr5,hr6,hr7,hr8,hr9,hr10⟩:=dG.out.c11 1 rfl
    obtain ⟨hs0,hs1,hs2⟩:=dG.out.c3 0 rfl
    exact bodyPost_ret (v:=.tuple #[.agg #[.int .i64 0,.int .i64 0,.bool false,.slice none 0 0,.slice none 0 0,.bool false,.slice none 0 0,.slice none 0 0,.bool false,.slice none 0 0,.slice none 0 0],.agg #[.bool false,.slice none 0 0,.slice none 0 0],.bool false]) (by simp [results,Tryz.results26,go_sem,hr0,hr1,hr2,hr3,hr4,hr5,hr6,hr7,hr8,hr9,hr10,hs0,hs1,hs2]) rfl (OwnMG.no HNO.out SR.out)
  ·have HNO:=Hd (mg_no (A:=A) (B:=B) (C:=C) (E:=E) (P:=P) (Q:=Q) (R:=R) (V:=V) (U:=U) (T:=T) (.inr (.inl (by rw [← Bool.not_eq_true]; exact h2))))
   rw [Bool.not_eq_true] at h2
   have H2:=Hd h2
   clear h2
   go_enter Tryz.func26,Tryz.ntmps26
   go_wp2_with fail
   refine (isValidLink_s A B P Q R p0 p1 q0 q1 r0 r1 _ (c1.out.lkA HL.out)).mono ?_
   rintro e w1 ⟨rfl,hb⟩
   have gW:=Hd (c1.out.call hb)
   clear c1
   clear hb
   rw [H1.out]
   obtain ⟨eF,eH,eI,eJ,eK,eL,eM,eN,eO,eP,dH⟩:=gW.out.c11 2 rfl
   go_wp2_with fail
   refine (isValidLink_s C E V U T v0 v1 u0 u1 t0 t1 _ (gW.out.lkA HM.out)).mono ?_
   rintro e w2 ⟨rfl,hb⟩
   have fZ:=Hd (gW.out.call hb)
   clear gW
   clear hb
   rw [H2.out]
   clear eF eH eI eJ eK eL eM eN eO eP dH
   obtain ⟨mA,jN,mB,jO,mC,jP,mD,jQ,mE,jR,mF,jS,mG,jT,mH,jU,mI,jV,mJ,jW,jX,gX⟩:=fZ.out.g11 1 rfl
   obtain ⟨mK,jY,mL,jZ,mM,j0⟩:=fZ.out.g3 0 rfl
   go_wp2
   have SR:=Hd ((fZ.out.setAll 1 [.int .i64 0,.int .i64 0,.bool false,.slice none 0 0,.slice none 0 0,.bool false,.slice none 0 0,.slice none 0 0,.bool false,.slice none 0 0,.slice none 0 0] rfl rfl).setAll 0 [.bool false,.slice none 0 0,.slice none 0 0] rfl rfl)
   obtain ⟨hr0,hr1,hr2,hr3,hr4,hr5,hr6,hr7,hr8,hr9,hr10⟩:=fZ.out.c11 1 rfl
   obtain ⟨hs0,hs1,hs2⟩:=fZ.out.c3 0 rfl
   exact bodyPost_ret (v:=.tuple #[.agg #[.int .i64 0,.int .i64 0,.bool false,.slice none 0 0,.slice none 0 0,.bool false,.slice none 0 0,.slice none 0 0,.bool false,.slice none 0 0,.slice none 0 0],.agg #[.bool false,.slice none 0 0,.slice none 0 0],.bool false]) (by simp [results,Tryz.results26,go_sem,hr0,hr1,hr2,hr3,hr4,hr5,hr6,hr7,hr8,hr9,hr10,hs0,hs1,hs2]) rfl (OwnMG.no HNO.out SR.out)
 ·have HNO:=Hd (mg_no (A:=A) (B:=B) (C:=C) (E:=E) (P:=P) (Q:=Q) (R:=R) (V:=V) (U:=U) (T:=T) (.inl (by rw [← Bool.not_eq_true]; exact h1)))
  rw [Bool.not_eq_true] at h1
  have H1:=Hd h1
  clear h1
  go_enter Tryz.func26,Tryz.ntmps26
  go_wp2_with fail
  refine (isValidLink_s A B P Q R p0 p1 q0 q1 r0 r1 _ (c1.out.lkA HL.out)).mono ?_
  rintro e w1 ⟨rfl,hb⟩
  have f0:=Hd (c1.out.call hb)
  clear c1
  clear hb
  rw [H1.out]
  obtain ⟨mN,j1,mO,j2,mP,j3,mQ,j4,mR,j5,mS,j6,mT,j7,mU,j8,mV,j9,mW,kA,kB,gY⟩:=f0.out.g11 1 rfl
  obtain ⟨mX,kC,mY,kD,mZ,kE⟩:=f0.out.g3 0 rfl
  go_wp2
  have SR:=Hd ((f0.out.setAll 1 [.int .i64 0,.int .i64 0,.bool false,.slice none 0 0,.slice none 0 0,.bool false,.slice none 0 0,.slice none 0 0,.bool false,.slice none 0 0,.slice none 0 0] rfl rfl).setAll 0 [.bool false,.slice none 0 0,.slice none 0 0] rfl rfl)
  obtain ⟨hr0,hr1,hr2,hr3,hr4,hr5,hr6,hr7,hr8,hr9,hr10⟩:=f0.out.c11 1 rfl
  obtain ⟨hs0,hs1,hs2⟩:=f0.out.c3 0 rfl
  exact bodyPost_ret (v:=.tuple #[.agg #[.int .i64 0,.int .i64 0,.bool false,.slice none 0 0,.slice none 0 0,.bool false,.slice none 0 0,.slice none 0 0,.bool false,.slice none 0 0,.slice none 0 0],.agg #[.bool false,.slice none 0 0,.slice none 0 0],.bool false]) (by simp [results,Tryz.results26,go_sem,hr0,hr1,hr2,hr3,hr4,hr5,hr6,hr7,hr8,hr9,hr10,hs0,hs1,hs2]) rfl (OwnMG.no HNO.out SR.out)
end Go.Proofs.YtodoiekbjjiocaaGreat
