/- Links: two links merged, both sides. Conditions: none. -/
import Derived.Test.YtodoiekbjjiocaaGreatJPk
import Derived.Test.YtodoiekbjjiocaaGreatJLkBase
import Derived.Test.YtodoiekbjjiocaaGreatJHand
namespace Go.Proofs.YtodoiekbjjiocaaGreat
open Go.RowKit Nt Fr
set_option linter.unusedVariables false
theorem St.allocE2 {w0 w : World} {bs : List (Nat × List Value)} {cs : List Chunk} (h : St w0 w bs cs) (us vs : List Value) (U V : TypeId) : St w0 ((w.alloc (.cells us.toArray U)).alloc (.cells vs.toArray V)) (bs ++ [((w.alloc (.cells us.toArray U)).heap.size,vs),(w.heap.size,us)]) cs:=by
 have h':=(h.allocE us U).allocE vs V
 have hp : ((bs ++ [(w.heap.size,us)]) ++ [((w.alloc (.cells us.toArray U)).heap.size,vs)]).Perm (bs ++ [((w.alloc (.cells us.toArray U)).heap.size,vs),(w.heap.size,us)]):=by
  rw [List.append_assoc]; exact (List.Perm.swap _ _ []).append_left bs
 exact ⟨h'.below,fun p hp' =>h'.box p (hp.symm.subset hp'),h'.row,(hp.pairwise_iff (fun {p q} (e : p.1 ≠ q.1)=>e.symm)).mp h'.bb,h'.cc,fun p hp' =>h'.br p (hp.symm.subset hp')⟩
theorem setCells_kit (b : Nat) (us : List Value) (w : World) (j : Nat) : w.setCells b j us = setCells w b j us:=by
 induction us generalizing w j with
 | nil=>rfl
 | cons v r ih=>exact ih _ _
theorem below_setCells {B b : Nat} {a w : World} (us : List Value) (j : Nat) (hb : B ≤ b) (h : Below B a w) : Below B a (setCells w b j us):=by
 induction us generalizing w j with
 | nil=>exact h
 | cons v r ih=>exact ih _ (h.setCell (p:=⟨b,j,none⟩) hb v)
theorem St.stored {P : Program} {w0 w wr : World} {bs : List (Nat × List Value)} {cs : List Chunk} (h : St w0 w bs cs) (k : Nat) {b : Nat} {vs : List Value} (us : List Value) (e : bs[k]? = some (b,vs)) (hl : us.length = vs.length) (h1 : (us.all fun v=>v.oneCell') = true) (hb : Below wr.heap.size wr w) (hge : wr.heap.size ≤ b) :
 ∃ w',(storeCells ⟨b,0,none⟩ us 0).run P w = .ok () w' ∧ St w0 w' (bs.set k (b,us)) cs ∧ Below wr.heap.size wr w':=by
 refine ⟨_,?_,h.setAll k us e hl,below_setCells us 0 hge hb⟩
 rw [← setCells_kit]
 have hv : ∀ j,j < us.length → ∃ v,vs[j]? = some v:=fun j hj=>⟨vs[j]'(by omega),List.getElem?_eq_getElem _⟩
 have:=run_storeCells_cells (P:=P) b 0 us 0 w (fun j hj=>by obtain ⟨v,hv⟩:=hv j hj; simp [h.cell k j e hv]) (fun j hj=>by obtain ⟨v,hv⟩:=hv j hj; simpa using h.froz k j e hv) (fun v hv=>List.all_eq_true.mp h1 v hv)
 simpa using this
theorem St.setKit {w0 w : World} {bs : List (Nat × List Value)} {cs : List Chunk} (h : St w0 w bs cs) (k : Nat) {b : Nat} {vs : List Value} (us : List Value) (e : bs[k]? = some (b,vs)) (hl : us.length = vs.length) : St w0 (w.setCells b 0 us) (bs.set k (b,us)) cs:=by rw [setCells_kit]; exact h.setAll k us e hl
theorem St.there_ {w0 w : World} {bs : List (Nat × List Value)} {cs : List Chunk} (h : St w0 w bs cs) (k : Nat) {b n : Nat} {vs : List Value} (e : bs[k]? = some (b,vs)) (hl : vs.length = n) : w.there b 0 n:=fun j hj=>by
 have hv : vs[j]? = some (vs[j]'(by omega)):=List.getElem?_eq_getElem (by omega)
 rw [Nat.zero_add]
 exact ⟨by rw [h.cell k j e hv]; rfl,h.froz k j e hv⟩
theorem size_link : (Tryz.prog.info? 40).map (·.size) = some 11:=by kernel_rfl
theorem size_rat : (Tryz.prog.info? 35).map (·.size) = some 3:=by kernel_rfl
theorem St.allocE_at {w0 w : World} {bs : List (Nat × List Value)} {cs : List Chunk} (h : St w0 w bs cs) {b : Nat} (vs : List Value) (T : TypeId) (e : w.heap.size = b) : St w0 (w.alloc (.cells vs.toArray T)) (bs ++ [(b,vs)]) cs:=e ▸ h.allocE vs T
theorem St.allocE2_at {w0 w : World} {bs : List (Nat × List Value)} {cs : List Chunk} (h : St w0 w bs cs) {b c : Nat} (us vs : List Value) (U V : TypeId) (e : w.heap.size = b) (e2 : b + 1 = c) : St w0 ((w.alloc (.cells us.toArray U)).alloc (.cells vs.toArray V)) (bs ++ [(c,vs),(b,us)]) cs:=by
 have h':=h.allocE2 us vs U V
 rw [show (w.alloc (.cells us.toArray U)).heap.size = c by simp [e,e2],e] at h'
 exact h'
def pk (ok : Bool) (F : Fr) : Fr:=if ok = true then F else Fr.zero
def pi (ok : Bool) (x : Int) : Int:=if ok = true then x else 0
def mgX (P Q V U : Fr) : Fr:=((P.mul Q).add (V.mul U)).div (P.add V)
def mgE (P Q R V U T : Fr) : Fr:=((P.mul V).div (P.add V)).mul ((Q.sub U).sq (R.sub T))
def mwOk (A B : Int) (P Q R V U T : Fr) : Bool:=okK A B (P.add V) (mgX P Q V U) (mgX P R V T) && (mgE P Q R V U T).ok
def mgOk (A B C E : Int) (P Q R V U T : Fr) : Bool:=(okK A B P Q R && okK C E V U T && (decide (A = C) && decide (B = E))) && mwOk A B P Q R V U T
def OwnM (A B : Int) (P Q R E : Fr) (ok : Bool) (w : World) (en : Ending) (w' : World) : Prop :=
 ∃ p0 p1 q0 q1 r0 r1 e0 e1,en = .returned (.tuple #[.agg #[.int .i64 A,.int .i64 B,.bool P.s,p0,p1,.bool Q.s,q0,q1,.bool R.s,r0,r1],.agg #[.bool E.s,e0,e1],.bool ok]) ∧ Owns w' w.heap.size (rowsK P Q R p0 p1 q0 q1 r0 r1 ++ [(e0,ints E.xs),(e1,ints E.ys)]) ∧ Below w.heap.size w w'
def OwnMG (ok : Bool) (A B : Int) (P Q R E : Fr) (w : World) (en : Ending) (w' : World) : Prop:=OwnM (pi ok A) (pi ok B) (pk ok P) (pk ok Q) (pk ok R) (pk ok E) ok w en w'
theorem OwnMG.yes {ok : Bool} {A B : Int} {P Q R E : Fr} {w w' : World} {e : Ending} (h : ok = true) (hm : OwnM A B P Q R E true w e w') : OwnMG ok A B P Q R E w e w':=by subst h; exact hm
theorem OwnMG.no {ok : Bool} {A B : Int} {P Q R E : Fr} {w w' : World} {bs : List (Nat × List Value)} {cs : List Chunk} (h : ok = false) (hs : St w w' bs cs) : OwnMG ok A B P Q R E w (.returned (.tuple #[.agg #[.int .i64 0,.int .i64 0,.bool false,.slice none 0 0,.slice none 0 0,.bool false,.slice none 0 0,.slice none 0 0,.bool false,.slice none 0 0,.slice none 0 0],.agg #[.bool false,.slice none 0 0,.slice none 0 0],.bool false])) w':=by
 subst h; exact ⟨_,_,_,_,_,_,_,_,rfl,Owns.nils _ _ 8,hs.below⟩
set_option maxRecDepth 100000 in
set_option maxHeartbeats 40000000 in
theorem mergedWith_f (A B : Int) (P Q R : Fr) (p0 p1 q0 q1 r0 r1 : Value) (C E : Int) (V U T : Fr) (v0 v1 u0 u1 t0 t1 : Value) (w : World) (hk : okK A B P Q R = true) (hl : okK C E V U T = true) (hL : LkA w P Q R p0 p1 q0 q1 r0 r1) (hM : LkA w V U T v0 v1 u0 u1 t0 t1) :
 Calls Tryz.prog 64 #[.agg #[.int .i64 A,.int .i64 B,.bool P.s,p0,p1,.bool Q.s,q0,q1,.bool R.s,r0,r1],.agg #[.int .i64 C,.int .i64 E,.bool V.s,v0,v1,.bool U.s,u0,u1,.bool T.s,t0,t1]] w (OwnMG (mwOk A B P Q R V U T) A B (P.add V) (mgX P Q V U) (mgX P R V T) (mgE P Q R V U T) w):=by
 have hv:=okK_parts hk
 have hw:=okK_parts hl
 clear hk hl
 have GP:=Hd (show P.Good from .inl (sgn_ok hv.2.2.2.1))
 have GQ:=Hd (show Q.Good from .inl (hv.2.2.2.2.1))
 have GR:=Hd (show R.Good from .inl (hv.2.2.2.2.2))
 have GV:=Hd (show V.Good from .inl (sgn_ok hw.2.2.2.1))
 have GU:=Hd (show U.Good from .inl (hw.2.2.2.2.1))
 have GT:=Hd (show T.Good from .inl (hw.2.2.2.2.2))
 clear hv hw
 obtain ⟨Ap,np,cp,Bp,mp,dp,rfl,rfl⟩:=hL.p.shape
 obtain ⟨Av,nv,cv,Bv,mv,dv,rfl,rfl⟩:=hM.p.shape
 have HL:=Hd hL
 have HM:=Hd hM
 clear hL hM
 obtain ⟨S,hS⟩ : ∃ z,P.add V = z:=⟨_,rfl⟩
 obtain ⟨M1,hM1⟩ : ∃ z,P.mul Q = z:=⟨_,rfl⟩
 obtain ⟨M2,hM2⟩ : ∃ z,V.mul U = z:=⟨_,rfl⟩
 obtain ⟨N1,hN1⟩ : ∃ z,M1.add M2 = z:=⟨_,rfl⟩
 obtain ⟨X,hX⟩ : ∃ z,N1.div S = z:=⟨_,rfl⟩
 obtain ⟨M3,hM3⟩ : ∃ z,P.mul R = z:=⟨_,rfl⟩
 obtain ⟨M4,hM4⟩ : ∃ z,V.mul T = z:=⟨_,rfl⟩
 obtain ⟨N2,hN2⟩ : ∃ z,M3.add M4 = z:=⟨_,rfl⟩
 obtain ⟨Y,hY⟩ : ∃ z,N2.div S = z:=⟨_,rfl⟩
 obtain ⟨D1,hD1⟩ : ∃ z,Q.sub U = z:=⟨_,rfl⟩
 obtain ⟨D2,hD2⟩ : ∃ z,R.sub T = z:=⟨_,rfl⟩
 obtain ⟨H,hH⟩ : ∃ z,D1.sq D2 = z:=⟨_,rfl⟩
 obtain ⟨W1,hW1⟩ : ∃ z,P.mul V = z:=⟨_,rfl⟩
 obtain ⟨W2,hW2⟩ : ∃ z,W1.div S = z:=⟨_,rfl⟩
 obtain ⟨G,hG⟩ : ∃ z,W2.mul H = z:=⟨_,rfl⟩
 have eX : mgX P Q V U = X:=by unfold mgX; rw [hM1,hM2,hN1,hS,hX]
 have eY : mgX P R V T = Y:=by unfold mgX; rw [hM3,hM4,hN2,hS,hY]
 have eG : mgE P Q R V U T = G:=by unfold mgE; rw [hW1,hS,hW2,hD1,hD2,hH,hG]
 obtain ⟨ok,hok⟩ : ∃ z,mwOk A B P Q R V U T = z:=⟨_,rfl⟩
 have hokd : (okK A B S X Y && G.ok) = ok:=by rw [← hok]; unfold mwOk; rw [eX,eY,eG,hS]
 rw [hok,eX,eY,eG,hS]
 have HOK:=Hd hokd
 clear hok hokd eX eY eG
 have HS:=Hd hS
 clear hS
 have iD:=Hd hM1
 clear hM1
 have iA:=Hd hM2
 clear hM2
 have HN1:=Hd hN1
 clear hN1
 have HX:=Hd hX
 clear hX
 have dO:=Hd hM3
 clear hM3
 have cY:=Hd hM4
 clear hM4
 have HN2:=Hd hN2
 clear hN2
 have HY:=Hd hY
 clear hY
 have iE:=Hd hD1
 clear hD1
 have iB:=Hd hD2
 clear hD2
 have HH:=Hd hH
 clear hH
 have HW1:=Hd hW1
 clear hW1
 have HW2:=Hd hW2
 clear hW2
 have HG:=Hd hG
 clear hG
 have iR:=Hd (St.start4 w [.int .i64 A,.int .i64 B,.bool P.s,(.slice Ap np cp),(.slice Bp mp dp),.bool Q.s,q0,q1,.bool R.s,r0,r1] 40 [.int .i64 C,.int .i64 E,.bool V.s,(.slice Av nv cv),(.slice Bv mv dv),.bool U.s,u0,u1,.bool T.s,t0,t1] 40 [.int .i64 0,.int .i64 0,.bool false,.slice none 0 0,.slice none 0 0,.bool false,.slice none 0 0,.slice none 0 0,.bool false,.slice none 0 0,.slice none 0 0] 40 [.bool false,.slice none 0 0,.slice none 0 0] 35)
 have iF : w.heap.size + 1 + 1 + 1 ≠ w.heap.size + 1 + 1:=by omega
 have eV : w.heap.size + 1 + 1 + 1 ≠ w.heap.size + 1:=by omega
 have eW : w.heap.size + 1 + 1 + 1 ≠ w.heap.size:=by omega
 have iG : w.heap.size + 1 + 1 ≠ w.heap.size + 1 + 1 + 1:=by omega
 have eZ : w.heap.size + 1 + 1 ≠ w.heap.size + 1:=by omega
 have e3 : w.heap.size + 1 + 1 ≠ w.heap.size:=by omega
 have e4 : w.heap.size + 1 ≠ w.heap.size + 1 + 1 + 1:=by omega
 have e5 : w.heap.size + 1 ≠ w.heap.size + 1 + 1:=by omega
 have g2 : w.heap.size + 1 ≠ w.heap.size:=by omega
 have e6 : w.heap.size ≠ w.heap.size + 1 + 1 + 1:=by omega
 have e7 : w.heap.size ≠ w.heap.size + 1 + 1:=by omega
 have g4 : w.heap.size ≠ w.heap.size + 1:=by omega
 go_enter Tryz.func64,Tryz.ntmps64
 go_upto_region 1 with fail
 go_cut [7,8] (fun ptr ptr2 wx=>∃ blk blk2,ptr = .pointer (some ⟨blk,0,none⟩) ∧ ptr2 = .pointer (some ⟨blk2,0,none⟩) ∧ St w wx [(w.heap.size + 1 + 1 + 1,[.bool false,.slice none 0 0,.slice none 0 0]),(w.heap.size + 1 + 1,[.int .i64 0,.int .i64 0,.bool false,.slice none 0 0,.slice none 0 0,.bool false,.slice none 0 0,.slice none 0 0,.bool false,.slice none 0 0,.slice none 0 0]),(w.heap.size + 1,[.int .i64 C,.int .i64 E,.bool V.s,(.slice Av nv cv),(.slice Bv mv dv),.bool U.s,u0,u1,.bool T.s,t0,t1]),(w.heap.size,[.int .i64 A,.int .i64 B,.bool P.s,(.slice Ap np cp),(.slice Bp mp dp),.bool Q.s,q0,q1,.bool R.s,r0,r1]),(blk,[.bool P.s,(.slice Ap np cp),(.slice Bp mp dp)]),(blk2,[.bool V.s,(.slice Av nv cv),(.slice Bv mv dv)])] [])
 case first=>
  go_region
  all_goals go_wp2_with fail
  all_goals go_meet
  all_goals refine ⟨_,_,rfl,rfl,?_⟩
  all_goals first | exact ((iR.out.drew.allocE_at [.bool P.s,(.slice Ap np cp),(.slice Bp mp dp)] 35 (by first | rfl | simp)).allocE_at [.bool V.s,(.slice Av nv cv),(.slice Bv mv dv)] 35 (by first | rfl | simp)) | exact (iR.out.drew.allocE2_at [.bool V.s,(.slice Av nv cv),(.slice Bv mv dv)] [.bool P.s,(.slice Ap np cp),(.slice Bp mp dp)] 35 35 (by first | rfl | simp) (by first | rfl | simp))
 obtain ⟨cS,cT,rfl,rfl,hst⟩:=hcut
 clear iR
 have cE:=Hd hst
 clear hst
 have e8:=cE.out.ne 0 4 rfl rfl (by decide)
 have e9:=cE.out.ne 0 5 rfl rfl (by decide)
 have fA:=cE.out.ne 1 4 rfl rfl (by decide)
 have fB:=cE.out.ne 1 5 rfl rfl (by decide)
 have g5:=cE.out.ne 2 4 rfl rfl (by decide)
 have g6:=cE.out.ne 2 5 rfl rfl (by decide)
 have g7:=cE.out.ne 3 4 rfl rfl (by decide)
 have g8:=cE.out.ne 3 5 rfl rfl (by decide)
 have fC:=cE.out.ne 4 0 rfl rfl (by decide)
 have fD:=cE.out.ne 4 1 rfl rfl (by decide)
 have g9:=cE.out.ne 4 2 rfl rfl (by decide)
 have hA:=cE.out.ne 4 3 rfl rfl (by decide)
 have hB:=cE.out.ne 4 5 rfl rfl (by decide)
 have fE:=cE.out.ne 5 0 rfl rfl (by decide)
 have fF:=cE.out.ne 5 1 rfl rfl (by decide)
 have hC:=cE.out.ne 5 2 rfl rfl (by decide)
 have hD:=cE.out.ne 5 3 rfl rfl (by decide)
 have hE:=cE.out.ne 5 4 rfl rfl (by decide)
 obtain ⟨wa,hwa⟩ : ∃ u,wc = u:=⟨_,rfl⟩
 rw [hwa] at cE ⊢
 clear hwa
 obtain ⟨fG,fH,fI⟩:=cE.out.c3 4 rfl
 obtain ⟨fJ,fK,fL⟩:=cE.out.c3 5 rfl
 go_wp2_with fail
 refine (plus_f P V (.slice Ap np cp) (.slice Bp mp dp) (.slice Av nv cv) (.slice Bv mv dv) _ GP.out GV.out (cE.out.lkA HL.out).p (cE.out.lkA HM.out).p).mono ?_
 rintro e w1 ⟨v0,u0,rfl,ho,hb⟩
 obtain ⟨A0,n0,c0,rfl⟩:=(ho.at_ 0 rfl).shape3
 obtain ⟨B0,m0,d0,rfl⟩:=(ho.at_ 1 rfl).shape3
 have iS:=Hd (cE.out.rows ho hb)
 clear cE
 clear ho hb
 rw [HS.out] at iS ⊢
 have bN:=Hd (iS.out.allocE [.bool S.s,(.slice A0 n0 c0),(.slice B0 m0 d0)] 35)
 clear iS
 have cZ:=bN.out.ne 0 6 rfl rfl (by decide)
 have c1:=bN.out.ne 6 0 rfl rfl (by decide)
 have c2:=bN.out.ne 1 6 rfl rfl (by decide)
 have c4:=bN.out.ne 6 1 rfl rfl (by decide)
 have dP:=bN.out.ne 2 6 rfl rfl (by decide)
 have dQ:=bN.out.ne 6 2 rfl rfl (by decide)
 have dR:=bN.out.ne 3 6 rfl rfl (by decide)
 have dS:=bN.out.ne 6 3 rfl rfl (by decide)
 have dT:=bN.out.ne 4 6 rfl rfl (by decide)
 have dU:=bN.out.ne 6 4 rfl rfl (by decide)
 have dV:=bN.out.ne 5 6 rfl rfl (by decide)
 have dW:=bN.out.ne 6 5 rfl rfl (by decide)
 clear fG fH fI fJ fK fL
 go_upto_region 3 with fail
 obtain ⟨wb,hwb⟩ : ∃ u,(w1.alloc (.cells #[.bool S.s,(.slice A0 n0 c0),(.slice B0 m0 d0)] 35)) = u:=⟨_,rfl⟩
 rw [hwb] at bN ⊢
 clear hwb
 obtain ⟨fM,fN,fO,fP,fQ,fR,fS,fT,fU,fV,dX⟩:=bN.out.c11 3 rfl
 obtain ⟨fW,fX,fY,fZ,f0,f1,f2,f3,f4,f5,dY⟩:=bN.out.c11 2 rfl
 obtain ⟨f6,f7,f8⟩:=bN.out.c3 4 rfl
 obtain ⟨f9,gA,gB⟩:=bN.out.c3 5 rfl
 obtain ⟨c5,c6,c7⟩:=bN.out.c3 6 rfl
 go_upto_region 3 with fail
 clear fM fN fO fP fQ fR fS fT fU fV dX fW fX fY fZ f0 f1 f2 f3 f4 f5 dY f6 f7 f8 f9 gA gB c5 c6 c7
 go_cut [10] (fun ptr wx=>∃ blk Ax4 nx4 cx4 Bx4 mx4 dx4 Ay4 ny4 cy4 By4 my4 dy4,ptr = .pointer (some ⟨blk,0,none⟩) ∧ St w wx [(w.heap.size + 1 + 1 + 1,[.bool false,.slice none 0 0,.slice none 0 0]),(w.heap.size + 1 + 1,[.int .i64 0,.int .i64 0,.bool false,.slice none 0 0,.slice none 0 0,.bool false,.slice none 0 0,.slice none 0 0,.bool false,.slice none 0 0,.slice none 0 0]),(w.heap.size + 1,[.int .i64 C,.int .i64 E,.bool V.s,(.slice Av nv cv),(.slice Bv mv dv),.bool U.s,u0,u1,.bool T.s,t0,t1]),(w.heap.size,[.int .i64 A,.int .i64 B,.bool P.s,(.slice Ap np cp),(.slice Bp mp dp),.bool Q.s,q0,q1,.bool R.s,r0,r1]),(cS,[.bool P.s,(.slice Ap np cp),(.slice Bp mp dp)]),(cT,[.bool V.s,(.slice Av nv cv),(.slice Bv mv dv)]),(w1.heap.size,[.bool S.s,(.slice A0 n0 c0),(.slice B0 m0 d0)]),(blk,[.int .i64 A,.int .i64 B,.bool S.s,(.slice A0 n0 c0),(.slice B0 m0 d0),.bool X.s,(.slice Ax4 nx4 cx4),(.slice Bx4 mx4 dx4),.bool Y.s,(.slice Ay4 ny4 cy4),(.slice By4 my4 dy4)])] [[((.slice Ay4 ny4 cy4),ints Y.xs),((.slice By4 my4 dy4),ints Y.ys)],[((.slice Ax4 nx4 cx4),ints X.xs),((.slice Bx4 mx4 dx4),ints X.ys)],[((.slice A0 n0 c0),ints S.xs),((.slice B0 m0 d0),ints S.ys)]])
 case first=>
  have aA : ∀ (w' : World) (x0_ x1_ : List Value) (bs' : List (Nat × List Value)) (cs' : List Chunk),St w w' ((w.heap.size + 1 + 1 + 1,x0_) :: (w.heap.size + 1 + 1,x1_) :: (w.heap.size + 1,[.int .i64 C,.int .i64 E,.bool V.s,(.slice Av nv cv),(.slice Bv mv dv),.bool U.s,u0,u1,.bool T.s,t0,t1]) :: (w.heap.size,[.int .i64 A,.int .i64 B,.bool P.s,(.slice Ap np cp),(.slice Bp mp dp),.bool Q.s,q0,q1,.bool R.s,r0,r1]) :: (cS,[.bool P.s,(.slice Ap np cp),(.slice Bp mp dp)]) :: (cT,[.bool V.s,(.slice Av nv cv),(.slice Bv mv dv)]) :: (w1.heap.size,[.bool S.s,(.slice A0 n0 c0),(.slice B0 m0 d0)]) :: bs') cs' → w'.cell? ⟨w.heap.size + 1,0,none⟩ = some (.int .i64 C) ∧ w'.cell? ⟨w.heap.size + 1,1,none⟩ = some (.int .i64 E) ∧ w'.cell? ⟨w.heap.size + 1,2,none⟩ = some (.bool V.s) ∧ w'.cell? ⟨w.heap.size + 1,3,none⟩ = some ((.slice Av nv cv)) ∧ w'.cell? ⟨w.heap.size + 1,4,none⟩ = some ((.slice Bv mv dv)) ∧ w'.cell? ⟨w.heap.size + 1,5,none⟩ = some (.bool U.s) ∧ w'.cell? ⟨w.heap.size + 1,6,none⟩ = some (u0) ∧ w'.cell? ⟨w.heap.size + 1,7,none⟩ = some (u1) ∧ w'.cell? ⟨w.heap.size + 1,8,none⟩ = some (.bool T.s) ∧ w'.cell? ⟨w.heap.size + 1,9,none⟩ = some (t0) ∧ w'.cell? ⟨w.heap.size + 1,10,none⟩ = some (t1) ∧ w'.cell? ⟨w.heap.size,0,none⟩ = some (.int .i64 A) ∧ w'.cell? ⟨w.heap.size,1,none⟩ = some (.int .i64 B) ∧ w'.cell? ⟨w.heap.size,2,none⟩ = some (.bool P.s) ∧ w'.cell? ⟨w.heap.size,3,none⟩ = some ((.slice Ap np cp)) ∧ w'.cell? ⟨w.heap.size,4,none⟩ = some ((.slice Bp mp dp)) ∧ w'.cell? ⟨w.heap.size,5,none⟩ = some (.bool Q.s) ∧ w'.cell? ⟨w.heap.size,6,none⟩ = some (q0) ∧ w'.cell? ⟨w.heap.size,7,none⟩ = some (q1) ∧ w'.cell? ⟨w.heap.size,8,none⟩ = some (.bool R.s) ∧ w'.cell? ⟨w.heap.size,9,none⟩ = some (r0) ∧ w'.cell? ⟨w.heap.size,10,none⟩ = some (r1) ∧ w'.cell? ⟨cS,0,none⟩ = some (.bool P.s) ∧ w'.cell? ⟨cS,1,none⟩ = some ((.slice Ap np cp)) ∧ w'.cell? ⟨cS,2,none⟩ = some ((.slice Bp mp dp)) ∧ w'.cell? ⟨cT,0,none⟩ = some (.bool V.s) ∧ w'.cell? ⟨cT,1,none⟩ = some ((.slice Av nv cv)) ∧ w'.cell? ⟨cT,2,none⟩ = some ((.slice Bv mv dv)) ∧ w'.cell? ⟨w1.heap.size,0,none⟩ = some (.bool S.s) ∧ w'.cell? ⟨w1.heap.size,1,none⟩ = some ((.slice A0 n0 c0)) ∧ w'.cell? ⟨w1.heap.size,2,none⟩ = some ((.slice B0 m0 d0)):=fun w' x0_ x1_ bs' cs' h=>(h.d11 2 rfl (h.d11 3 rfl (h.d3 4 rfl (h.d3 5 rfl (h.c3 6 rfl)))))
  refine wp_region_noPanic ?_
  refine wp_region_held_drew (S:=(fun w' =>w'.cell? ⟨w.heap.size + 1,0,none⟩ = some (.int .i64 C) ∧ w'.cell? ⟨w.heap.size + 1,1,none⟩ = some (.int .i64 E) ∧ w'.cell? ⟨w.heap.size + 1,2,none⟩ = some (.bool V.s) ∧ w'.cell? ⟨w.heap.size + 1,3,none⟩ = some ((.slice Av nv cv)) ∧ w'.cell? ⟨w.heap.size + 1,4,none⟩ = some ((.slice Bv mv dv)) ∧ w'.cell? ⟨w.heap.size + 1,5,none⟩ = some (.bool U.s) ∧ w'.cell? ⟨w.heap.size + 1,6,none⟩ = some (u0) ∧ w'.cell? ⟨w.heap.size + 1,7,none⟩ = some (u1) ∧ w'.cell? ⟨w.heap.size + 1,8,none⟩ = some (.bool T.s) ∧ w'.cell? ⟨w.heap.size + 1,9,none⟩ = some (t0) ∧ w'.cell? ⟨w.heap.size + 1,10,none⟩ = some (t1) ∧ w'.cell? ⟨w.heap.size,0,none⟩ = some (.int .i64 A) ∧ w'.cell? ⟨w.heap.size,1,none⟩ = some (.int .i64 B) ∧ w'.cell? ⟨w.heap.size,2,none⟩ = some (.bool P.s) ∧ w'.cell? ⟨w.heap.size,3,none⟩ = some ((.slice Ap np cp)) ∧ w'.cell? ⟨w.heap.size,4,none⟩ = some ((.slice Bp mp dp)) ∧ w'.cell? ⟨w.heap.size,5,none⟩ = some (.bool Q.s) ∧ w'.cell? ⟨w.heap.size,6,none⟩ = some (q0) ∧ w'.cell? ⟨w.heap.size,7,none⟩ = some (q1) ∧ w'.cell? ⟨w.heap.size,8,none⟩ = some (.bool R.s) ∧ w'.cell? ⟨w.heap.size,9,none⟩ = some (r0) ∧ w'.cell? ⟨w.heap.size,10,none⟩ = some (r1) ∧ w'.cell? ⟨cS,0,none⟩ = some (.bool P.s) ∧ w'.cell? ⟨cS,1,none⟩ = some ((.slice Ap np cp)) ∧ w'.cell? ⟨cS,2,none⟩ = some ((.slice Bp mp dp)) ∧ w'.cell? ⟨cT,0,none⟩ = some (.bool V.s) ∧ w'.cell? ⟨cT,1,none⟩ = some ((.slice Av nv cv)) ∧ w'.cell? ⟨cT,2,none⟩ = some ((.slice Bv mv dv)) ∧ w'.cell? ⟨w1.heap.size,0,none⟩ = some (.bool S.s) ∧ w'.cell? ⟨w1.heap.size,1,none⟩ = some ((.slice A0 n0 c0)) ∧ w'.cell? ⟨w1.heap.size,2,none⟩ = some ((.slice B0 m0 d0)))) (by kernel_rfl) ?_ (fun hI=>?_)
  ·exact aA _ _ _ _ _ bN.out.drew
  refine tI 0 rfl ?_ ?_ ?_
  rotate_left
  ·intro w9 aH; (try dsimp only at aH); go_simp; try with_reducible rfl
  try simp only [pm,s0,sS]
  refine tI 1 rfl ?_ ?_ ?_
  rotate_left
  ·intro w9 aH; (try dsimp only at aH); go_simp; try with_reducible rfl
  try simp only [pm,s0,sS]
  refine tI 2 rfl ?_ ?_ ?_
  rotate_left
  ·intro w9 aH; (try dsimp only at aH); go_simp; try with_reducible rfl
  try simp only [pm,s0,sS]
  refine tI 3 rfl ?_ ?_ ?_
  rotate_left
  ·intro w9 aH; (try dsimp only at aH); go_simp; try with_reducible rfl
  try simp only [pm,s0,sS]
  refine tI 4 rfl ?_ ?_ ?_
  rotate_left
  ·intro w9 aH; (try dsimp only at aH); go_simp; try with_reducible rfl
  try simp only [pm,s0,sS]
  refine tI 5 rfl ?_ ?_ ?_
  rotate_left
  ·intro w9 aH; (try dsimp only at aH); go_simp; try with_reducible rfl
  try simp only [pm,s0,sS]
  refine tI 6 rfl ?_ ?_ ?_
  rotate_left
  ·intro w9 aH; (try dsimp only at aH); go_simp; try with_reducible rfl
  try simp only [pm,s0,sS]
  refine tI 7 rfl ?_ ?_ ?_
  rotate_left
  ·intro w9 aH; (try dsimp only at aH); go_simp; try with_reducible rfl
  try simp only [pm,s0,sS]
  refine tI 9 rfl ?_ ?_ ?_
  rotate_left
  ·intro w9 aH; (try dsimp only at aH); go_simp; try with_reducible rfl
  try simp only [pm,s0,sS]
  refine tI 10 rfl ?_ ?_ ?_
  rotate_left
  ·intro w9 aH; (try dsimp only at aH); go_simp; try with_reducible rfl
  try simp only [pm,s0,sS]
  refine tI 11 rfl ?_ ?_ ?_
  rotate_left
  ·intro w9 aH; (try dsimp only at aH); go_simp; try with_reducible rfl
  try simp only [pm,s0,sS]
  refine tI 14 rfl ?_ ?_ ?_
  rotate_left
  ·intro w9 aH; (try dsimp only at aH); go_simp; try with_reducible rfl
  try simp only [pm,s0,sS]
  refine tI 16 rfl ?_ ?_ ?_
  rotate_left
  ·intro w9 aH; (try dsimp only at aH); go_simp; try with_reducible rfl
  try simp only [pm,s0,sS]
  refine tI 17 rfl ?_ ?_ ?_
  rotate_left
  ·intro w9 aH; (try dsimp only at aH); go_simp; try with_reducible rfl
  try simp only [pm,s0,sS]
  refine tI 18 rfl ?_ ?_ ?_
  rotate_left
  ·intro w9 aH; (try dsimp only at aH); go_simp; try with_reducible rfl
  try simp only [pm,s0,sS]
  refine tI 20 rfl ?_ ?_ ?_
  rotate_left
  ·intro w9 aH; (try dsimp only at aH); go_simp; try with_reducible rfl
  try simp only [pm,s0,sS]
  refine tI 21 rfl ?_ ?_ ?_
  rotate_left
  ·intro w9 aH; (try dsimp only at aH); go_simp; try with_reducible rfl
  try simp only [pm,s0,sS]
  refine tI 22 rfl ?_ ?_ ?_
  rotate_left
  ·intro w9 aH; (try dsimp only at aH); go_simp; try with_reducible rfl
  try simp only [pm,s0,sS]
  refine tI 25 rfl ?_ ?_ ?_
  rotate_left
  ·intro w9 aH; (try dsimp only at aH); go_simp; try with_reducible rfl
  try simp only [pm,s0,sS]
  refine wpAnyH_ready (rs:=[8,28]) (by kernel_rfl) (by simp) ?_
  refine ac rfl (fun K hK=>?_) ?_
  ·go_simp
   go_at_call_of 90 (Value.agg #[Value.bool P.s,(Value.slice Ap np cp),(Value.slice Bp mp dp)])
   go_at_call_of 90 (Value.agg #[Value.bool Q.s,q0,q1])
   refine (times_f P Q (.slice Ap np cp) (.slice Bp mp dp) q0 q1 _ GP.out GQ.out (bN.out.drew.lkA HL.out).p (bN.out.drew.lkA HL.out).q).mono ?_
   rintro e wx1 ⟨vx1,ux1,rfl,ho,hb⟩
   obtain ⟨Ax1,nx1,cx1,rfl⟩:=(ho.at_ 0 rfl).shape3
   obtain ⟨Bx1,mx1,dx1,rfl⟩:=(ho.at_ 1 rfl).shape3
   rw [iD.out] at ho ⊢
   have dZ:=Hd (bN.out.drew.rows ho hb)
   clear bN ho hb
   refine hK.out _ _ (aA _ _ _ _ _ dZ.out) (fun cH=>?_)
   clear hK K
   try simp only [pm,s0,sS]
   refine wpAnyH_ready (rs:=[12,28]) (by kernel_rfl) (by simp) ?_
   refine ac rfl (fun K hK=>?_) ?_
   ·go_simp
    go_at_call_of 90 (Value.agg #[Value.bool V.s,(Value.slice Av nv cv),(Value.slice Bv mv dv)])
    go_at_call_of 90 (Value.agg #[Value.bool U.s,u0,u1])
    refine (times_f V U (.slice Av nv cv) (.slice Bv mv dv) u0 u1 _ GV.out GU.out (dZ.out.lkA HM.out).p (dZ.out.lkA HM.out).q).mono ?_
    rintro e wx2 ⟨vx2,ux2,rfl,ho,hb⟩
    obtain ⟨Ax2,nx2,cx2,rfl⟩:=(ho.at_ 0 rfl).shape3
    obtain ⟨Bx2,mx2,dx2,rfl⟩:=(ho.at_ 1 rfl).shape3
    rw [iA.out] at ho ⊢
    have cK:=Hd (dZ.out.rows ho hb)
    clear dZ ho hb
    refine hK.out _ _ (aA _ _ _ _ _ cK.out) (fun a0=>?_)
    clear hK K
    try simp only [pm,s0,sS]
    refine wpAnyH_ready (rs:=[13,28]) (by kernel_rfl) (by simp) ?_
    refine ac rfl (fun K hK=>?_) ?_
    ·go_simp
     go_at_call_of 43 (Value.agg #[Value.bool M1.s,(Value.slice Ax1 nx1 cx1),(Value.slice Bx1 mx1 dx1)])
     refine (plus_f M1 M2 (.slice Ax1 nx1 cx1) (.slice Bx1 mx1 dx1) (.slice Ax2 nx2 cx2) (.slice Bx2 mx2 dx2) _ (iD.out ▸ good_mul _ _) (iA.out ▸ good_mul _ _) (cK.out.fr 1 0 rfl rfl rfl) (cK.out.fr 0 0 rfl rfl rfl)).mono ?_
     rintro e wx3 ⟨vx3,ux3,rfl,ho,hb⟩
     obtain ⟨Ax3,nx3,cx3,rfl⟩:=(ho.at_ 0 rfl).shape3
     obtain ⟨Bx3,mx3,dx3,rfl⟩:=(ho.at_ 1 rfl).shape3
     rw [HN1.out] at ho ⊢
     have cF:=Hd (cK.out.rows ho hb)
     clear cK ho hb
     refine hK.out _ _ (aA _ _ _ _ _ cF.out) (fun cL=>?_)
     clear hK K
     try simp only [pm,s0,sS]
     refine wpAnyH_ready (rs:=[15,28]) (by kernel_rfl) (by simp) ?_
     refine ac rfl (fun K hK=>?_) ?_
     ·go_simp
      go_at_call_of 91 (Value.agg #[Value.bool N1.s,(Value.slice Ax3 nx3 cx3),(Value.slice Bx3 mx3 dx3)])
      refine (dividedBy_f N1 S (.slice Ax3 nx3 cx3) (.slice Bx3 mx3 dx3) (.slice A0 n0 c0) (.slice B0 m0 d0) _ (HN1.out ▸ good_add _ _) (HS.out ▸ good_add P V) (cF.out.fr 0 0 rfl rfl rfl) (cF.out.fr 3 0 rfl rfl rfl)).mono ?_
      rintro e wx4 ⟨vx4,ux4,rfl,ho,hb⟩
      obtain ⟨Ax4,nx4,cx4,rfl⟩:=(ho.at_ 0 rfl).shape3
      obtain ⟨Bx4,mx4,dx4,rfl⟩:=(ho.at_ 1 rfl).shape3
      rw [HX.out] at ho ⊢
      have a4:=Hd (cF.out.rows ho hb)
      clear cF ho hb
      refine hK.out _ _ (aA _ _ _ _ _ a4.out) (fun cG=>?_)
      clear hK K
      try simp only [pm,s0,sS]
      refine wpAnyH_ready (rs:=[19,28]) (by kernel_rfl) (by simp) ?_
      refine ac rfl (fun K hK=>?_) ?_
      ·go_simp
       go_at_call_of 90 (Value.agg #[Value.bool P.s,(Value.slice Ap np cp),(Value.slice Bp mp dp)])
       go_at_call_of 90 (Value.agg #[Value.bool R.s,r0,r1])
       refine (times_f P R (.slice Ap np cp) (.slice Bp mp dp) r0 r1 _ GP.out GR.out (a4.out.lkA HL.out).p (a4.out.lkA HL.out).r).mono ?_
       rintro e wy1 ⟨vy1,uy1,rfl,ho,hb⟩
       obtain ⟨Ay1,ny1,cy1,rfl⟩:=(ho.at_ 0 rfl).shape3
       obtain ⟨By1,my1,dy1,rfl⟩:=(ho.at_ 1 rfl).shape3
       rw [dO.out] at ho ⊢
       have aY:=Hd (a4.out.rows ho hb)
       clear a4 ho hb
       refine hK.out _ _ (aA _ _ _ _ _ aY.out) (fun a5=>?_)
       clear hK K
       try simp only [pm,s0,sS]
       refine wpAnyH_ready (rs:=[23,28]) (by kernel_rfl) (by simp) ?_
       refine ac rfl (fun K hK=>?_) ?_
       ·go_simp
        go_at_call_of 90 (Value.agg #[Value.bool V.s,(Value.slice Av nv cv),(Value.slice Bv mv dv)])
        go_at_call_of 90 (Value.agg #[Value.bool T.s,t0,t1])
        refine (times_f V T (.slice Av nv cv) (.slice Bv mv dv) t0 t1 _ GV.out GT.out (aY.out.lkA HM.out).p (aY.out.lkA HM.out).r).mono ?_
        rintro e wy2 ⟨vy2,uy2,rfl,ho,hb⟩
        obtain ⟨Ay2,ny2,cy2,rfl⟩:=(ho.at_ 0 rfl).shape3
        obtain ⟨By2,my2,dy2,rfl⟩:=(ho.at_ 1 rfl).shape3
        rw [cY.out] at ho ⊢
        have aG:=Hd (aY.out.rows ho hb)
        clear aY ho hb
        refine hK.out _ _ (aA _ _ _ _ _ aG.out) (fun a2=>?_)
        clear hK K
        try simp only [pm,s0,sS]
        refine wpAnyH_ready (rs:=[24,28]) (by kernel_rfl) (by simp) ?_
        refine ac rfl (fun K hK=>?_) ?_
        ·go_simp
         go_at_call_of 43 (Value.agg #[Value.bool M3.s,(Value.slice Ay1 ny1 cy1),(Value.slice By1 my1 dy1)])
         refine (plus_f M3 M4 (.slice Ay1 ny1 cy1) (.slice By1 my1 dy1) (.slice Ay2 ny2 cy2) (.slice By2 my2 dy2) _ (dO.out ▸ good_mul _ _) (cY.out ▸ good_mul _ _) (aG.out.fr 1 0 rfl rfl rfl) (aG.out.fr 0 0 rfl rfl rfl)).mono ?_
         rintro e wy3 ⟨vy3,uy3,rfl,ho,hb⟩
         obtain ⟨Ay3,ny3,cy3,rfl⟩:=(ho.at_ 0 rfl).shape3
         obtain ⟨By3,my3,dy3,rfl⟩:=(ho.at_ 1 rfl).shape3
         rw [HN2.out] at ho ⊢
         have aC:=Hd (aG.out.rows ho hb)
         clear aG ho hb
         refine hK.out _ _ (aA _ _ _ _ _ aC.out) (fun aV=>?_)
         clear hK K
         try simp only [pm,s0,sS]
         refine wpAnyH_ready (rs:=[26,28]) (by kernel_rfl) (by simp) ?_
         refine ac rfl (fun K hK=>?_) ?_
         ·go_simp
          go_at_call_of 91 (Value.agg #[Value.bool N2.s,(Value.slice Ay3 ny3 cy3),(Value.slice By3 my3 dy3)])
          refine (dividedBy_f N2 S (.slice Ay3 ny3 cy3) (.slice By3 my3 dy3) (.slice A0 n0 c0) (.slice B0 m0 d0) _ (HN2.out ▸ good_add _ _) (HS.out ▸ good_add P V) (aC.out.fr 0 0 rfl rfl rfl) (aC.out.fr 7 0 rfl rfl rfl)).mono ?_
          rintro e wy4 ⟨vy4,uy4,rfl,ho,hb⟩
          obtain ⟨Ay4,ny4,cy4,rfl⟩:=(ho.at_ 0 rfl).shape3
          obtain ⟨By4,my4,dy4,rfl⟩:=(ho.at_ 1 rfl).shape3
          rw [HY.out] at ho ⊢
          have aB:=Hd (aC.out.rows ho hb)
          clear aC ho hb
          refine hK.out _ _ (aA _ _ _ _ _ aB.out) (fun aQ=>?_)
          clear hK K
          try simp only [pm,s0,sS]
          refine tI 27 rfl ?_ ?_ ?_
          rotate_left
          ·intro w9 aH; (try dsimp only at aH); go_simp; try with_reducible rfl
          try simp only [pm,s0,sS]
          refine wpAnyH_ready (rs:=[28]) (by kernel_rfl) (by simp) ?_
          refine a1 rfl fun K hK=>?_
          go_simp
          have aE:=Hd (aB.out.allocE [.int .i64 0,.int .i64 0,.bool false,.slice none 0 0,.slice none 0 0,.bool false,.slice none 0 0,.slice none 0 0,.bool false,.slice none 0 0,.slice none 0 0] 40)
          clear aB
          refine hK.out _ _ (aA _ _ _ _ _ aE.out) (fun aR=>?_)
          clear hK K
          try simp only [pm,s0,sS]
          refine wpAnyH_ready (rs:=[29]) (by kernel_rfl) (by simp) ?_
          refine a1 rfl fun K hK=>?_
          rw [if_pos (by rfl)]
          refine wp_store_mid _ _ _ rfl _ _ (List.toArray [.int .i64 A,.int .i64 B,.bool S.s,(.slice A0 n0 c0),(.slice B0 m0 d0),.bool X.s,(.slice Ax4 nx4 cx4),(.slice Bx4 mx4 dx4),.bool Y.s,(.slice Ay4 ny4 cy4),(.slice By4 my4 dy4)]) rfl rfl (aE.out.there_ 7 rfl rfl) (size_link) (all_oneCell_toArray (cs:=[.int .i64 A,.int .i64 B,.bool S.s,(.slice A0 n0 c0),(.slice B0 m0 d0),.bool X.s,(.slice Ax4 nx4 cx4),(.slice Bx4 mx4 dx4),.bool Y.s,(.slice Ay4 ny4 cy4),(.slice By4 my4 dy4)]) (List.all_eq_true.mp rfl)) ?_
          simp only [Act.put]
          have aO:=Hd (aE.out.setKit 7 [.int .i64 A,.int .i64 B,.bool S.s,(.slice A0 n0 c0),(.slice B0 m0 d0),.bool X.s,(.slice Ax4 nx4 cx4),(.slice Bx4 mx4 dx4),.bool Y.s,(.slice Ay4 ny4 cy4),(.slice By4 my4 dy4)] rfl rfl)
          clear aE
          refine hK.out _ _ (aA _ _ _ _ _ aO.out) (fun aS=>?_)
          clear hK K
          try simp only [pm,s0,sS]
          refine wpAnyH_done (by kernel_rfl) ?_ _
          refine NoPanic.normal ?_
          go_wp2_with fail
          go_meet
          refine ⟨_,Ax4,nx4,cx4,Bx4,mx4,dx4,Ay4,ny4,cy4,By4,my4,dy4,rfl,?_⟩
          exact ((((((aO.out.drop 7).drop 6).drop 5).drop 3).drop 2).drop 1)
         refine ac rfl (fun K hK=>?_) ?_
         ·go_simp
          have aB:=Hd (aC.out.allocE [.int .i64 0,.int .i64 0,.bool false,.slice none 0 0,.slice none 0 0,.bool false,.slice none 0 0,.slice none 0 0,.bool false,.slice none 0 0,.slice none 0 0] 40)
          clear aC
          refine hK.out _ _ (aA _ _ _ _ _ aB.out) (fun aR=>?_)
          clear hK K
          try simp only [pm,s0,sS]
          refine wpAnyH_ready (rs:=[26]) (by kernel_rfl) (by simp) ?_
          refine a1 rfl fun K hK=>?_
          go_simp
          go_at_call_of 91 (Value.agg #[Value.bool N2.s,(Value.slice Ay3 ny3 cy3),(Value.slice By3 my3 dy3)])
          refine (dividedBy_f N2 S (.slice Ay3 ny3 cy3) (.slice By3 my3 dy3) (.slice A0 n0 c0) (.slice B0 m0 d0) _ (HN2.out ▸ good_add _ _) (HS.out ▸ good_add P V) (aB.out.fr 0 0 rfl rfl rfl) (aB.out.fr 7 0 rfl rfl rfl)).mono ?_
          rintro e wy4 ⟨vy4,uy4,rfl,ho,hb⟩
          obtain ⟨Ay4,ny4,cy4,rfl⟩:=(ho.at_ 0 rfl).shape3
          obtain ⟨By4,my4,dy4,rfl⟩:=(ho.at_ 1 rfl).shape3
          rw [HY.out] at ho ⊢
          have aE:=Hd (aB.out.rows ho hb)
          clear aB ho hb
          refine hK.out _ _ (aA _ _ _ _ _ aE.out) (fun aQ=>?_)
          clear hK K
          try simp only [pm,s0,sS]
          refine tI 27 rfl ?_ ?_ ?_
          rotate_left
          ·intro w9 aH; (try dsimp only at aH); go_simp; try with_reducible rfl
          try simp only [pm,s0,sS]
          refine wpAnyH_ready (rs:=[29]) (by kernel_rfl) (by simp) ?_
          refine a1 rfl fun K hK=>?_
          rw [if_pos (by rfl)]
          refine wp_store_mid _ _ _ rfl _ _ (List.toArray [.int .i64 A,.int .i64 B,.bool S.s,(.slice A0 n0 c0),(.slice B0 m0 d0),.bool X.s,(.slice Ax4 nx4 cx4),(.slice Bx4 mx4 dx4),.bool Y.s,(.slice Ay4 ny4 cy4),(.slice By4 my4 dy4)]) rfl rfl (aE.out.there_ 7 rfl rfl) (size_link) (all_oneCell_toArray (cs:=[.int .i64 A,.int .i64 B,.bool S.s,(.slice A0 n0 c0),(.slice B0 m0 d0),.bool X.s,(.slice Ax4 nx4 cx4),(.slice Bx4 mx4 dx4),.bool Y.s,(.slice Ay4 ny4 cy4),(.slice By4 my4 dy4)]) (List.all_eq_true.mp rfl)) ?_
          simp only [Act.put]
          have aO:=Hd (aE.out.setKit 7 [.int .i64 A,.int .i64 B,.bool S.s,(.slice A0 n0 c0),(.slice B0 m0 d0),.bool X.s,(.slice Ax4 nx4 cx4),(.slice Bx4 mx4 dx4),.bool Y.s,(.slice Ay4 ny4 cy4),(.slice By4 my4 dy4)] rfl rfl)
          clear aE
          refine hK.out _ _ (aA _ _ _ _ _ aO.out) (fun aS=>?_)
          clear hK K
          try simp only [pm,s0,sS]
          refine wpAnyH_done (by kernel_rfl) ?_ _
          refine NoPanic.normal ?_
          go_wp2_with fail
          go_meet
          refine ⟨_,Ax4,nx4,cx4,Bx4,mx4,dx4,Ay4,ny4,cy4,By4,my4,dy4,rfl,?_⟩
          exact ((((((aO.out.drop 7).drop 6).drop 5).drop 3).drop 2).drop 1)
         exact AllReadyH.nil
        refine ac rfl (fun K hK=>?_) ?_
        ·go_simp
         have aC:=Hd (aG.out.allocE [.int .i64 0,.int .i64 0,.bool false,.slice none 0 0,.slice none 0 0,.bool false,.slice none 0 0,.slice none 0 0,.bool false,.slice none 0 0,.slice none 0 0] 40)
         clear aG
         refine hK.out _ _ (aA _ _ _ _ _ aC.out) (fun aR=>?_)
         clear hK K
         try simp only [pm,s0,sS]
         refine wpAnyH_ready (rs:=[24]) (by kernel_rfl) (by simp) ?_
         refine a1 rfl fun K hK=>?_
         go_simp
         go_at_call_of 43 (Value.agg #[Value.bool M3.s,(Value.slice Ay1 ny1 cy1),(Value.slice By1 my1 dy1)])
         refine (plus_f M3 M4 (.slice Ay1 ny1 cy1) (.slice By1 my1 dy1) (.slice Ay2 ny2 cy2) (.slice By2 my2 dy2) _ (dO.out ▸ good_mul _ _) (cY.out ▸ good_mul _ _) (aC.out.fr 1 0 rfl rfl rfl) (aC.out.fr 0 0 rfl rfl rfl)).mono ?_
         rintro e wy3 ⟨vy3,uy3,rfl,ho,hb⟩
         obtain ⟨Ay3,ny3,cy3,rfl⟩:=(ho.at_ 0 rfl).shape3
         obtain ⟨By3,my3,dy3,rfl⟩:=(ho.at_ 1 rfl).shape3
         rw [HN2.out] at ho ⊢
         have aB:=Hd (aC.out.rows ho hb)
         clear aC ho hb
         refine hK.out _ _ (aA _ _ _ _ _ aB.out) (fun aV=>?_)
         clear hK K
         try simp only [pm,s0,sS]
         refine wpAnyH_ready (rs:=[26]) (by kernel_rfl) (by simp) ?_
         refine a1 rfl fun K hK=>?_
         go_simp
         go_at_call_of 91 (Value.agg #[Value.bool N2.s,(Value.slice Ay3 ny3 cy3),(Value.slice By3 my3 dy3)])
         refine (dividedBy_f N2 S (.slice Ay3 ny3 cy3) (.slice By3 my3 dy3) (.slice A0 n0 c0) (.slice B0 m0 d0) _ (HN2.out ▸ good_add _ _) (HS.out ▸ good_add P V) (aB.out.fr 0 0 rfl rfl rfl) (aB.out.fr 7 0 rfl rfl rfl)).mono ?_
         rintro e wy4 ⟨vy4,uy4,rfl,ho,hb⟩
         obtain ⟨Ay4,ny4,cy4,rfl⟩:=(ho.at_ 0 rfl).shape3
         obtain ⟨By4,my4,dy4,rfl⟩:=(ho.at_ 1 rfl).shape3
         rw [HY.out] at ho ⊢
         have aE:=Hd (aB.out.rows ho hb)
         clear aB ho hb
         refine hK.out _ _ (aA _ _ _ _ _ aE.out) (fun aQ=>?_)
         clear hK K
         try simp only [pm,s0,sS]
         refine tI 27 rfl ?_ ?_ ?_
         rotate_left
         ·intro w9 aH; (try dsimp only at aH); go_simp; try with_reducible rfl
         try simp only [pm,s0,sS]
         refine wpAnyH_ready (rs:=[29]) (by kernel_rfl) (by simp) ?_
         refine a1 rfl fun K hK=>?_
         rw [if_pos (by rfl)]
         refine wp_store_mid _ _ _ rfl _ _ (List.toArray [.int .i64 A,.int .i64 B,.bool S.s,(.slice A0 n0 c0),(.slice B0 m0 d0),.bool X.s,(.slice Ax4 nx4 cx4),(.slice Bx4 mx4 dx4),.bool Y.s,(.slice Ay4 ny4 cy4),(.slice By4 my4 dy4)]) rfl rfl (aE.out.there_ 7 rfl rfl) (size_link) (all_oneCell_toArray (cs:=[.int .i64 A,.int .i64 B,.bool S.s,(.slice A0 n0 c0),(.slice B0 m0 d0),.bool X.s,(.slice Ax4 nx4 cx4),(.slice Bx4 mx4 dx4),.bool Y.s,(.slice Ay4 ny4 cy4),(.slice By4 my4 dy4)]) (List.all_eq_true.mp rfl)) ?_
         simp only [Act.put]
         have aO:=Hd (aE.out.setKit 7 [.int .i64 A,.int .i64 B,.bool S.s,(.slice A0 n0 c0),(.slice B0 m0 d0),.bool X.s,(.slice Ax4 nx4 cx4),(.slice Bx4 mx4 dx4),.bool Y.s,(.slice Ay4 ny4 cy4),(.slice By4 my4 dy4)] rfl rfl)
         clear aE
         refine hK.out _ _ (aA _ _ _ _ _ aO.out) (fun aS=>?_)
         clear hK K
         try simp only [pm,s0,sS]
         refine wpAnyH_done (by kernel_rfl) ?_ _
         refine NoPanic.normal ?_
         go_wp2_with fail
         go_meet
         refine ⟨_,Ax4,nx4,cx4,Bx4,mx4,dx4,Ay4,ny4,cy4,By4,my4,dy4,rfl,?_⟩
         exact ((((((aO.out.drop 7).drop 6).drop 5).drop 3).drop 2).drop 1)
        exact AllReadyH.nil
       refine ac rfl (fun K hK=>?_) ?_
       ·go_simp
        have aG:=Hd (aY.out.allocE [.int .i64 0,.int .i64 0,.bool false,.slice none 0 0,.slice none 0 0,.bool false,.slice none 0 0,.slice none 0 0,.bool false,.slice none 0 0,.slice none 0 0] 40)
        clear aY
        refine hK.out _ _ (aA _ _ _ _ _ aG.out) (fun aR=>?_)
        clear hK K
        try simp only [pm,s0,sS]
        refine wpAnyH_ready (rs:=[23]) (by kernel_rfl) (by simp) ?_
        refine a1 rfl fun K hK=>?_
        go_simp
        go_at_call_of 90 (Value.agg #[Value.bool V.s,(Value.slice Av nv cv),(Value.slice Bv mv dv)])
        go_at_call_of 90 (Value.agg #[Value.bool T.s,t0,t1])
        refine (times_f V T (.slice Av nv cv) (.slice Bv mv dv) t0 t1 _ GV.out GT.out (aG.out.lkA HM.out).p (aG.out.lkA HM.out).r).mono ?_
        rintro e wy2 ⟨vy2,uy2,rfl,ho,hb⟩
        obtain ⟨Ay2,ny2,cy2,rfl⟩:=(ho.at_ 0 rfl).shape3
        obtain ⟨By2,my2,dy2,rfl⟩:=(ho.at_ 1 rfl).shape3
        rw [cY.out] at ho ⊢
        have aC:=Hd (aG.out.rows ho hb)
        clear aG ho hb
        refine hK.out _ _ (aA _ _ _ _ _ aC.out) (fun a2=>?_)
        clear hK K
        try simp only [pm,s0,sS]
        refine wpAnyH_ready (rs:=[24]) (by kernel_rfl) (by simp) ?_
        refine a1 rfl fun K hK=>?_
        go_simp
        go_at_call_of 43 (Value.agg #[Value.bool M3.s,(Value.slice Ay1 ny1 cy1),(Value.slice By1 my1 dy1)])
        refine (plus_f M3 M4 (.slice Ay1 ny1 cy1) (.slice By1 my1 dy1) (.slice Ay2 ny2 cy2) (.slice By2 my2 dy2) _ (dO.out ▸ good_mul _ _) (cY.out ▸ good_mul _ _) (aC.out.fr 1 0 rfl rfl rfl) (aC.out.fr 0 0 rfl rfl rfl)).mono ?_
        rintro e wy3 ⟨vy3,uy3,rfl,ho,hb⟩
        obtain ⟨Ay3,ny3,cy3,rfl⟩:=(ho.at_ 0 rfl).shape3
        obtain ⟨By3,my3,dy3,rfl⟩:=(ho.at_ 1 rfl).shape3
        rw [HN2.out] at ho ⊢
        have aB:=Hd (aC.out.rows ho hb)
        clear aC ho hb
        refine hK.out _ _ (aA _ _ _ _ _ aB.out) (fun aV=>?_)
        clear hK K
        try simp only [pm,s0,sS]
        refine wpAnyH_ready (rs:=[26]) (by kernel_rfl) (by simp) ?_
        refine a1 rfl fun K hK=>?_
        go_simp
        go_at_call_of 91 (Value.agg #[Value.bool N2.s,(Value.slice Ay3 ny3 cy3),(Value.slice By3 my3 dy3)])
        refine (dividedBy_f N2 S (.slice Ay3 ny3 cy3) (.slice By3 my3 dy3) (.slice A0 n0 c0) (.slice B0 m0 d0) _ (HN2.out ▸ good_add _ _) (HS.out ▸ good_add P V) (aB.out.fr 0 0 rfl rfl rfl) (aB.out.fr 7 0 rfl rfl rfl)).mono ?_
        rintro e wy4 ⟨vy4,uy4,rfl,ho,hb⟩
        obtain ⟨Ay4,ny4,cy4,rfl⟩:=(ho.at_ 0 rfl).shape3
        obtain ⟨By4,my4,dy4,rfl⟩:=(ho.at_ 1 rfl).shape3
        rw [HY.out] at ho ⊢
        have aE:=Hd (aB.out.rows ho hb)
        clear aB ho hb
        refine hK.out _ _ (aA _ _ _ _ _ aE.out) (fun aQ=>?_)
        clear hK K
        try simp only [pm,s0,sS]
        refine tI 27 rfl ?_ ?_ ?_
        rotate_left
        ·intro w9 aH; (try dsimp only at aH); go_simp; try with_reducible rfl
        try simp only [pm,s0,sS]
        refine wpAnyH_ready (rs:=[29]) (by kernel_rfl) (by simp) ?_
        refine a1 rfl fun K hK=>?_
        rw [if_pos (by rfl)]
        refine wp_store_mid _ _ _ rfl _ _ (List.toArray [.int .i64 A,.int .i64 B,.bool S.s,(.slice A0 n0 c0),(.slice B0 m0 d0),.bool X.s,(.slice Ax4 nx4 cx4),(.slice Bx4 mx4 dx4),.bool Y.s,(.slice Ay4 ny4 cy4),(.slice By4 my4 dy4)]) rfl rfl (aE.out.there_ 7 rfl rfl) (size_link) (all_oneCell_toArray (cs:=[.int .i64 A,.int .i64 B,.bool S.s,(.slice A0 n0 c0),(.slice B0 m0 d0),.bool X.s,(.slice Ax4 nx4 cx4),(.slice Bx4 mx4 dx4),.bool Y.s,(.slice Ay4 ny4 cy4),(.slice By4 my4 dy4)]) (List.all_eq_true.mp rfl)) ?_
        simp only [Act.put]
        have aO:=Hd (aE.out.setKit 7 [.int .i64 A,.int .i64 B,.bool S.s,(.slice A0 n0 c0),(.slice B0 m0 d0),.bool X.s,(.slice Ax4 nx4 cx4),(.slice Bx4 mx4 dx4),.bool Y.s,(.slice Ay4 ny4 cy4),(.slice By4 my4 dy4)] rfl rfl)
        clear aE
        refine hK.out _ _ (aA _ _ _ _ _ aO.out) (fun aS=>?_)
        clear hK K
        try simp only [pm,s0,sS]
        refine wpAnyH_done (by kernel_rfl) ?_ _
        refine NoPanic.normal ?_
        go_wp2_with fail
        go_meet
        refine ⟨_,Ax4,nx4,cx4,Bx4,mx4,dx4,Ay4,ny4,cy4,By4,my4,dy4,rfl,?_⟩
        exact ((((((aO.out.drop 7).drop 6).drop 5).drop 3).drop 2).drop 1)
       exact AllReadyH.nil
      refine ac rfl (fun K hK=>?_) ?_
      ·go_simp
       have aY:=Hd (a4.out.allocE [.int .i64 0,.int .i64 0,.bool false,.slice none 0 0,.slice none 0 0,.bool false,.slice none 0 0,.slice none 0 0,.bool false,.slice none 0 0,.slice none 0 0] 40)
       clear a4
       refine hK.out _ _ (aA _ _ _ _ _ aY.out) (fun aR=>?_)
       clear hK K
       try simp only [pm,s0,sS]
       refine wpAnyH_ready (rs:=[19]) (by kernel_rfl) (by simp) ?_
       refine a1 rfl fun K hK=>?_
       go_simp
       go_at_call_of 90 (Value.agg #[Value.bool P.s,(Value.slice Ap np cp),(Value.slice Bp mp dp)])
       go_at_call_of 90 (Value.agg #[Value.bool R.s,r0,r1])
       refine (times_f P R (.slice Ap np cp) (.slice Bp mp dp) r0 r1 _ GP.out GR.out (aY.out.lkA HL.out).p (aY.out.lkA HL.out).r).mono ?_
       rintro e wy1 ⟨vy1,uy1,rfl,ho,hb⟩
       obtain ⟨Ay1,ny1,cy1,rfl⟩:=(ho.at_ 0 rfl).shape3
       obtain ⟨By1,my1,dy1,rfl⟩:=(ho.at_ 1 rfl).shape3
       rw [dO.out] at ho ⊢
       have aG:=Hd (aY.out.rows ho hb)
       clear aY ho hb
       refine hK.out _ _ (aA _ _ _ _ _ aG.out) (fun a5=>?_)
       clear hK K
       try simp only [pm,s0,sS]
       refine wpAnyH_ready (rs:=[23]) (by kernel_rfl) (by simp) ?_
       refine a1 rfl fun K hK=>?_
       go_simp
       go_at_call_of 90 (Value.agg #[Value.bool V.s,(Value.slice Av nv cv),(Value.slice Bv mv dv)])
       go_at_call_of 90 (Value.agg #[Value.bool T.s,t0,t1])
       refine (times_f V T (.slice Av nv cv) (.slice Bv mv dv) t0 t1 _ GV.out GT.out (aG.out.lkA HM.out).p (aG.out.lkA HM.out).r).mono ?_
       rintro e wy2 ⟨vy2,uy2,rfl,ho,hb⟩
       obtain ⟨Ay2,ny2,cy2,rfl⟩:=(ho.at_ 0 rfl).shape3
       obtain ⟨By2,my2,dy2,rfl⟩:=(ho.at_ 1 rfl).shape3
       rw [cY.out] at ho ⊢
       have aC:=Hd (aG.out.rows ho hb)
       clear aG ho hb
       refine hK.out _ _ (aA _ _ _ _ _ aC.out) (fun a2=>?_)
       clear hK K
       try simp only [pm,s0,sS]
       refine wpAnyH_ready (rs:=[24]) (by kernel_rfl) (by simp) ?_
       refine a1 rfl fun K hK=>?_
       go_simp
       go_at_call_of 43 (Value.agg #[Value.bool M3.s,(Value.slice Ay1 ny1 cy1),(Value.slice By1 my1 dy1)])
       refine (plus_f M3 M4 (.slice Ay1 ny1 cy1) (.slice By1 my1 dy1) (.slice Ay2 ny2 cy2) (.slice By2 my2 dy2) _ (dO.out ▸ good_mul _ _) (cY.out ▸ good_mul _ _) (aC.out.fr 1 0 rfl rfl rfl) (aC.out.fr 0 0 rfl rfl rfl)).mono ?_
       rintro e wy3 ⟨vy3,uy3,rfl,ho,hb⟩
       obtain ⟨Ay3,ny3,cy3,rfl⟩:=(ho.at_ 0 rfl).shape3
       obtain ⟨By3,my3,dy3,rfl⟩:=(ho.at_ 1 rfl).shape3
       rw [HN2.out] at ho ⊢
       have aB:=Hd (aC.out.rows ho hb)
       clear aC ho hb
       refine hK.out _ _ (aA _ _ _ _ _ aB.out) (fun aV=>?_)
       clear hK K
       try simp only [pm,s0,sS]
       refine wpAnyH_ready (rs:=[26]) (by kernel_rfl) (by simp) ?_
       refine a1 rfl fun K hK=>?_
       go_simp
       go_at_call_of 91 (Value.agg #[Value.bool N2.s,(Value.slice Ay3 ny3 cy3),(Value.slice By3 my3 dy3)])
       refine (dividedBy_f N2 S (.slice Ay3 ny3 cy3) (.slice By3 my3 dy3) (.slice A0 n0 c0) (.slice B0 m0 d0) _ (HN2.out ▸ good_add _ _) (HS.out ▸ good_add P V) (aB.out.fr 0 0 rfl rfl rfl) (aB.out.fr 7 0 rfl rfl rfl)).mono ?_
       rintro e wy4 ⟨vy4,uy4,rfl,ho,hb⟩
       obtain ⟨Ay4,ny4,cy4,rfl⟩:=(ho.at_ 0 rfl).shape3
       obtain ⟨By4,my4,dy4,rfl⟩:=(ho.at_ 1 rfl).shape3
       rw [HY.out] at ho ⊢
       have aE:=Hd (aB.out.rows ho hb)
       clear aB ho hb
       refine hK.out _ _ (aA _ _ _ _ _ aE.out) (fun aQ=>?_)
       clear hK K
       try simp only [pm,s0,sS]
       refine tI 27 rfl ?_ ?_ ?_
       rotate_left
       ·intro w9 aH; (try dsimp only at aH); go_simp; try with_reducible rfl
       try simp only [pm,s0,sS]
       refine wpAnyH_ready (rs:=[29]) (by kernel_rfl) (by simp) ?_
       refine a1 rfl fun K hK=>?_
       rw [if_pos (by rfl)]
       refine wp_store_mid _ _ _ rfl _ _ (List.toArray [.int .i64 A,.int .i64 B,.bool S.s,(.slice A0 n0 c0),(.slice B0 m0 d0),.bool X.s,(.slice Ax4 nx4 cx4),(.slice Bx4 mx4 dx4),.bool Y.s,(.slice Ay4 ny4 cy4),(.slice By4 my4 dy4)]) rfl rfl (aE.out.there_ 7 rfl rfl) (size_link) (all_oneCell_toArray (cs:=[.int .i64 A,.int .i64 B,.bool S.s,(.slice A0 n0 c0),(.slice B0 m0 d0),.bool X.s,(.slice Ax4 nx4 cx4),(.slice Bx4 mx4 dx4),.bool Y.s,(.slice Ay4 ny4 cy4),(.slice By4 my4 dy4)]) (List.all_eq_true.mp rfl)) ?_
       simp only [Act.put]
       have aO:=Hd (aE.out.setKit 7 [.int .i64 A,.int .i64 B,.bool S.s,(.slice A0 n0 c0),(.slice B0 m0 d0),.bool X.s,(.slice Ax4 nx4 cx4),(.slice Bx4 mx4 dx4),.bool Y.s,(.slice Ay4 ny4 cy4),(.slice By4 my4 dy4)] rfl rfl)
       clear aE
       refine hK.out _ _ (aA _ _ _ _ _ aO.out) (fun aS=>?_)
       clear hK K
       try simp only [pm,s0,sS]
       refine wpAnyH_done (by kernel_rfl) ?_ _
       refine NoPanic.normal ?_
       go_wp2_with fail
       go_meet
       refine ⟨_,Ax4,nx4,cx4,Bx4,mx4,dx4,Ay4,ny4,cy4,By4,my4,dy4,rfl,?_⟩
       exact ((((((aO.out.drop 7).drop 6).drop 5).drop 3).drop 2).drop 1)
      exact AllReadyH.nil
     refine ac rfl (fun K hK=>?_) ?_
     ·go_simp
      have a4:=Hd (cF.out.allocE [.int .i64 0,.int .i64 0,.bool false,.slice none 0 0,.slice none 0 0,.bool false,.slice none 0 0,.slice none 0 0,.bool false,.slice none 0 0,.slice none 0 0] 40)
      clear cF
      refine hK.out _ _ (aA _ _ _ _ _ a4.out) (fun aR=>?_)
      clear hK K
      try simp only [pm,s0,sS]
      refine wpAnyH_ready (rs:=[15]) (by kernel_rfl) (by simp) ?_
      refine a1 rfl fun K hK=>?_
      go_simp
      go_at_call_of 91 (Value.agg #[Value.bool N1.s,(Value.slice Ax3 nx3 cx3),(Value.slice Bx3 mx3 dx3)])
      refine (dividedBy_f N1 S (.slice Ax3 nx3 cx3) (.slice Bx3 mx3 dx3) (.slice A0 n0 c0) (.slice B0 m0 d0) _ (HN1.out ▸ good_add _ _) (HS.out ▸ good_add P V) (a4.out.fr 0 0 rfl rfl rfl) (a4.out.fr 3 0 rfl rfl rfl)).mono ?_
      rintro e wx4 ⟨vx4,ux4,rfl,ho,hb⟩
      obtain ⟨Ax4,nx4,cx4,rfl⟩:=(ho.at_ 0 rfl).shape3
      obtain ⟨Bx4,mx4,dx4,rfl⟩:=(ho.at_ 1 rfl).shape3
      rw [HX.out] at ho ⊢
      have aY:=Hd (a4.out.rows ho hb)
      clear a4 ho hb
      refine hK.out _ _ (aA _ _ _ _ _ aY.out) (fun cG=>?_)
      clear hK K
      try simp only [pm,s0,sS]
      refine wpAnyH_ready (rs:=[19]) (by kernel_rfl) (by simp) ?_
      refine a1 rfl fun K hK=>?_
      go_simp
      go_at_call_of 90 (Value.agg #[Value.bool P.s,(Value.slice Ap np cp),(Value.slice Bp mp dp)])
      go_at_call_of 90 (Value.agg #[Value.bool R.s,r0,r1])
      refine (times_f P R (.slice Ap np cp) (.slice Bp mp dp) r0 r1 _ GP.out GR.out (aY.out.lkA HL.out).p (aY.out.lkA HL.out).r).mono ?_
      rintro e wy1 ⟨vy1,uy1,rfl,ho,hb⟩
      obtain ⟨Ay1,ny1,cy1,rfl⟩:=(ho.at_ 0 rfl).shape3
      obtain ⟨By1,my1,dy1,rfl⟩:=(ho.at_ 1 rfl).shape3
      rw [dO.out] at ho ⊢
      have aG:=Hd (aY.out.rows ho hb)
      clear aY ho hb
      refine hK.out _ _ (aA _ _ _ _ _ aG.out) (fun a5=>?_)
      clear hK K
      try simp only [pm,s0,sS]
      refine wpAnyH_ready (rs:=[23]) (by kernel_rfl) (by simp) ?_
      refine a1 rfl fun K hK=>?_
      go_simp
      go_at_call_of 90 (Value.agg #[Value.bool V.s,(Value.slice Av nv cv),(Value.slice Bv mv dv)])
      go_at_call_of 90 (Value.agg #[Value.bool T.s,t0,t1])
      refine (times_f V T (.slice Av nv cv) (.slice Bv mv dv) t0 t1 _ GV.out GT.out (aG.out.lkA HM.out).p (aG.out.lkA HM.out).r).mono ?_
      rintro e wy2 ⟨vy2,uy2,rfl,ho,hb⟩
      obtain ⟨Ay2,ny2,cy2,rfl⟩:=(ho.at_ 0 rfl).shape3
      obtain ⟨By2,my2,dy2,rfl⟩:=(ho.at_ 1 rfl).shape3
      rw [cY.out] at ho ⊢
      have aC:=Hd (aG.out.rows ho hb)
      clear aG ho hb
      refine hK.out _ _ (aA _ _ _ _ _ aC.out) (fun a2=>?_)
      clear hK K
      try simp only [pm,s0,sS]
      refine wpAnyH_ready (rs:=[24]) (by kernel_rfl) (by simp) ?_
      refine a1 rfl fun K hK=>?_
      go_simp
      go_at_call_of 43 (Value.agg #[Value.bool M3.s,(Value.slice Ay1 ny1 cy1),(Value.slice By1 my1 dy1)])
      refine (plus_f M3 M4 (.slice Ay1 ny1 cy1) (.slice By1 my1 dy1) (.slice Ay2 ny2 cy2) (.slice By2 my2 dy2) _ (dO.out ▸ good_mul _ _) (cY.out ▸ good_mul _ _) (aC.out.fr 1 0 rfl rfl rfl) (aC.out.fr 0 0 rfl rfl rfl)).mono ?_
      rintro e wy3 ⟨vy3,uy3,rfl,ho,hb⟩
      obtain ⟨Ay3,ny3,cy3,rfl⟩:=(ho.at_ 0 rfl).shape3
      obtain ⟨By3,my3,dy3,rfl⟩:=(ho.at_ 1 rfl).shape3
      rw [HN2.out] at ho ⊢
      have aB:=Hd (aC.out.rows ho hb)
      clear aC ho hb
      refine hK.out _ _ (aA _ _ _ _ _ aB.out) (fun aV=>?_)
      clear hK K
      try simp only [pm,s0,sS]
      refine wpAnyH_ready (rs:=[26]) (by kernel_rfl) (by simp) ?_
      refine a1 rfl fun K hK=>?_
      go_simp
      go_at_call_of 91 (Value.agg #[Value.bool N2.s,(Value.slice Ay3 ny3 cy3),(Value.slice By3 my3 dy3)])
      refine (dividedBy_f N2 S (.slice Ay3 ny3 cy3) (.slice By3 my3 dy3) (.slice A0 n0 c0) (.slice B0 m0 d0) _ (HN2.out ▸ good_add _ _) (HS.out ▸ good_add P V) (aB.out.fr 0 0 rfl rfl rfl) (aB.out.fr 7 0 rfl rfl rfl)).mono ?_
      rintro e wy4 ⟨vy4,uy4,rfl,ho,hb⟩
      obtain ⟨Ay4,ny4,cy4,rfl⟩:=(ho.at_ 0 rfl).shape3
      obtain ⟨By4,my4,dy4,rfl⟩:=(ho.at_ 1 rfl).shape3
      rw [HY.out] at ho ⊢
      have aE:=Hd (aB.out.rows ho hb)
      clear aB ho hb
      refine hK.out _ _ (aA _ _ _ _ _ aE.out) (fun aQ=>?_)
      clear hK K
      try simp only [pm,s0,sS]
      refine tI 27 rfl ?_ ?_ ?_
      rotate_left
      ·intro w9 aH; (try dsimp only at aH); go_simp; try with_reducible rfl
      try simp only [pm,s0,sS]
      refine wpAnyH_ready (rs:=[29]) (by kernel_rfl) (by simp) ?_
      refine a1 rfl fun K hK=>?_
      rw [if_pos (by rfl)]
      refine wp_store_mid _ _ _ rfl _ _ (List.toArray [.int .i64 A,.int .i64 B,.bool S.s,(.slice A0 n0 c0),(.slice B0 m0 d0),.bool X.s,(.slice Ax4 nx4 cx4),(.slice Bx4 mx4 dx4),.bool Y.s,(.slice Ay4 ny4 cy4),(.slice By4 my4 dy4)]) rfl rfl (aE.out.there_ 7 rfl rfl) (size_link) (all_oneCell_toArray (cs:=[.int .i64 A,.int .i64 B,.bool S.s,(.slice A0 n0 c0),(.slice B0 m0 d0),.bool X.s,(.slice Ax4 nx4 cx4),(.slice Bx4 mx4 dx4),.bool Y.s,(.slice Ay4 ny4 cy4),(.slice By4 my4 dy4)]) (List.all_eq_true.mp rfl)) ?_
      simp only [Act.put]
      have aO:=Hd (aE.out.setKit 7 [.int .i64 A,.int .i64 B,.bool S.s,(.slice A0 n0 c0),(.slice B0 m0 d0),.bool X.s,(.slice Ax4 nx4 cx4),(.slice Bx4 mx4 dx4),.bool Y.s,(.slice Ay4 ny4 cy4),(.slice By4 my4 dy4)] rfl rfl)
      clear aE
      refine hK.out _ _ (aA _ _ _ _ _ aO.out) (fun aS=>?_)
      clear hK K
      try simp only [pm,s0,sS]
      refine wpAnyH_done (by kernel_rfl) ?_ _
      refine NoPanic.normal ?_
      go_wp2_with fail
      go_meet
      refine ⟨_,Ax4,nx4,cx4,Bx4,mx4,dx4,Ay4,ny4,cy4,By4,my4,dy4,rfl,?_⟩
      exact ((((((aO.out.drop 7).drop 6).drop 5).drop 3).drop 2).drop 1)
     exact AllReadyH.nil
    refine ac rfl (fun K hK=>?_) ?_
    ·go_simp
     have cF:=Hd (cK.out.allocE [.int .i64 0,.int .i64 0,.bool false,.slice none 0 0,.slice none 0 0,.bool false,.slice none 0 0,.slice none 0 0,.bool false,.slice none 0 0,.slice none 0 0] 40)
     clear cK
     refine hK.out _ _ (aA _ _ _ _ _ cF.out) (fun aR=>?_)
     clear hK K
     try simp only [pm,s0,sS]
     refine wpAnyH_ready (rs:=[13]) (by kernel_rfl) (by simp) ?_
     refine a1 rfl fun K hK=>?_
     go_simp
     go_at_call_of 43 (Value.agg #[Value.bool M1.s,(Value.slice Ax1 nx1 cx1),(Value.slice Bx1 mx1 dx1)])
     refine (plus_f M1 M2 (.slice Ax1 nx1 cx1) (.slice Bx1 mx1 dx1) (.slice Ax2 nx2 cx2) (.slice Bx2 mx2 dx2) _ (iD.out ▸ good_mul _ _) (iA.out ▸ good_mul _ _) (cF.out.fr 1 0 rfl rfl rfl) (cF.out.fr 0 0 rfl rfl rfl)).mono ?_
     rintro e wx3 ⟨vx3,ux3,rfl,ho,hb⟩
     obtain ⟨Ax3,nx3,cx3,rfl⟩:=(ho.at_ 0 rfl).shape3
     obtain ⟨Bx3,mx3,dx3,rfl⟩:=(ho.at_ 1 rfl).shape3
     rw [HN1.out] at ho ⊢
     have a4:=Hd (cF.out.rows ho hb)
     clear cF ho hb
     refine hK.out _ _ (aA _ _ _ _ _ a4.out) (fun cL=>?_)
     clear hK K
     try simp only [pm,s0,sS]
     refine wpAnyH_ready (rs:=[15]) (by kernel_rfl) (by simp) ?_
     refine a1 rfl fun K hK=>?_
     go_simp
     go_at_call_of 91 (Value.agg #[Value.bool N1.s,(Value.slice Ax3 nx3 cx3),(Value.slice Bx3 mx3 dx3)])
     refine (dividedBy_f N1 S (.slice Ax3 nx3 cx3) (.slice Bx3 mx3 dx3) (.slice A0 n0 c0) (.slice B0 m0 d0) _ (HN1.out ▸ good_add _ _) (HS.out ▸ good_add P V) (a4.out.fr 0 0 rfl rfl rfl) (a4.out.fr 3 0 rfl rfl rfl)).mono ?_
     rintro e wx4 ⟨vx4,ux4,rfl,ho,hb⟩
     obtain ⟨Ax4,nx4,cx4,rfl⟩:=(ho.at_ 0 rfl).shape3
     obtain ⟨Bx4,mx4,dx4,rfl⟩:=(ho.at_ 1 rfl).shape3
     rw [HX.out] at ho ⊢
     have aY:=Hd (a4.out.rows ho hb)
     clear a4 ho hb
     refine hK.out _ _ (aA _ _ _ _ _ aY.out) (fun cG=>?_)
     clear hK K
     try simp only [pm,s0,sS]
     refine wpAnyH_ready (rs:=[19]) (by kernel_rfl) (by simp) ?_
     refine a1 rfl fun K hK=>?_
     go_simp
     go_at_call_of 90 (Value.agg #[Value.bool P.s,(Value.slice Ap np cp),(Value.slice Bp mp dp)])
     go_at_call_of 90 (Value.agg #[Value.bool R.s,r0,r1])
     refine (times_f P R (.slice Ap np cp) (.slice Bp mp dp) r0 r1 _ GP.out GR.out (aY.out.lkA HL.out).p (aY.out.lkA HL.out).r).mono ?_
     rintro e wy1 ⟨vy1,uy1,rfl,ho,hb⟩
     obtain ⟨Ay1,ny1,cy1,rfl⟩:=(ho.at_ 0 rfl).shape3
     obtain ⟨By1,my1,dy1,rfl⟩:=(ho.at_ 1 rfl).shape3
     rw [dO.out] at ho ⊢
     have aG:=Hd (aY.out.rows ho hb)
     clear aY ho hb
     refine hK.out _ _ (aA _ _ _ _ _ aG.out) (fun a5=>?_)
     clear hK K
     try simp only [pm,s0,sS]
     refine wpAnyH_ready (rs:=[23]) (by kernel_rfl) (by simp) ?_
     refine a1 rfl fun K hK=>?_
     go_simp
     go_at_call_of 90 (Value.agg #[Value.bool V.s,(Value.slice Av nv cv),(Value.slice Bv mv dv)])
     go_at_call_of 90 (Value.agg #[Value.bool T.s,t0,t1])
     refine (times_f V T (.slice Av nv cv) (.slice Bv mv dv) t0 t1 _ GV.out GT.out (aG.out.lkA HM.out).p (aG.out.lkA HM.out).r).mono ?_
     rintro e wy2 ⟨vy2,uy2,rfl,ho,hb⟩
     obtain ⟨Ay2,ny2,cy2,rfl⟩:=(ho.at_ 0 rfl).shape3
     obtain ⟨By2,my2,dy2,rfl⟩:=(ho.at_ 1 rfl).shape3
     rw [cY.out] at ho ⊢
     have aC:=Hd (aG.out.rows ho hb)
     clear aG ho hb
     refine hK.out _ _ (aA _ _ _ _ _ aC.out) (fun a2=>?_)
     clear hK K
     try simp only [pm,s0,sS]
     refine wpAnyH_ready (rs:=[24]) (by kernel_rfl) (by simp) ?_
     refine a1 rfl fun K hK=>?_
     go_simp
     go_at_call_of 43 (Value.agg #[Value.bool M3.s,(Value.slice Ay1 ny1 cy1),(Value.slice By1 my1 dy1)])
     refine (plus_f M3 M4 (.slice Ay1 ny1 cy1) (.slice By1 my1 dy1) (.slice Ay2 ny2 cy2) (.slice By2 my2 dy2) _ (dO.out ▸ good_mul _ _) (cY.out ▸ good_mul _ _) (aC.out.fr 1 0 rfl rfl rfl) (aC.out.fr 0 0 rfl rfl rfl)).mono ?_
     rintro e wy3 ⟨vy3,uy3,rfl,ho,hb⟩
     obtain ⟨Ay3,ny3,cy3,rfl⟩:=(ho.at_ 0 rfl).shape3
     obtain ⟨By3,my3,dy3,rfl⟩:=(ho.at_ 1 rfl).shape3
     rw [HN2.out] at ho ⊢
     have aB:=Hd (aC.out.rows ho hb)
     clear aC ho hb
     refine hK.out _ _ (aA _ _ _ _ _ aB.out) (fun aV=>?_)
     clear hK K
     try simp only [pm,s0,sS]
     refine wpAnyH_ready (rs:=[26]) (by kernel_rfl) (by simp) ?_
     refine a1 rfl fun K hK=>?_
     go_simp
     go_at_call_of 91 (Value.agg #[Value.bool N2.s,(Value.slice Ay3 ny3 cy3),(Value.slice By3 my3 dy3)])
     refine (dividedBy_f N2 S (.slice Ay3 ny3 cy3) (.slice By3 my3 dy3) (.slice A0 n0 c0) (.slice B0 m0 d0) _ (HN2.out ▸ good_add _ _) (HS.out ▸ good_add P V) (aB.out.fr 0 0 rfl rfl rfl) (aB.out.fr 7 0 rfl rfl rfl)).mono ?_
     rintro e wy4 ⟨vy4,uy4,rfl,ho,hb⟩
     obtain ⟨Ay4,ny4,cy4,rfl⟩:=(ho.at_ 0 rfl).shape3
     obtain ⟨By4,my4,dy4,rfl⟩:=(ho.at_ 1 rfl).shape3
     rw [HY.out] at ho ⊢
     have aE:=Hd (aB.out.rows ho hb)
     clear aB ho hb
     refine hK.out _ _ (aA _ _ _ _ _ aE.out) (fun aQ=>?_)
     clear hK K
     try simp only [pm,s0,sS]
     refine tI 27 rfl ?_ ?_ ?_
     rotate_left
     ·intro w9 aH; (try dsimp only at aH); go_simp; try with_reducible rfl
     try simp only [pm,s0,sS]
     refine wpAnyH_ready (rs:=[29]) (by kernel_rfl) (by simp) ?_
     refine a1 rfl fun K hK=>?_
     rw [if_pos (by rfl)]
     refine wp_store_mid _ _ _ rfl _ _ (List.toArray [.int .i64 A,.int .i64 B,.bool S.s,(.slice A0 n0 c0),(.slice B0 m0 d0),.bool X.s,(.slice Ax4 nx4 cx4),(.slice Bx4 mx4 dx4),.bool Y.s,(.slice Ay4 ny4 cy4),(.slice By4 my4 dy4)]) rfl rfl (aE.out.there_ 7 rfl rfl) (size_link) (all_oneCell_toArray (cs:=[.int .i64 A,.int .i64 B,.bool S.s,(.slice A0 n0 c0),(.slice B0 m0 d0),.bool X.s,(.slice Ax4 nx4 cx4),(.slice Bx4 mx4 dx4),.bool Y.s,(.slice Ay4 ny4 cy4),(.slice By4 my4 dy4)]) (List.all_eq_true.mp rfl)) ?_
     simp only [Act.put]
     have aO:=Hd (aE.out.setKit 7 [.int .i64 A,.int .i64 B,.bool S.s,(.slice A0 n0 c0),(.slice B0 m0 d0),.bool X.s,(.slice Ax4 nx4 cx4),(.slice Bx4 mx4 dx4),.bool Y.s,(.slice Ay4 ny4 cy4),(.slice By4 my4 dy4)] rfl rfl)
     clear aE
     refine hK.out _ _ (aA _ _ _ _ _ aO.out) (fun aS=>?_)
     clear hK K
     try simp only [pm,s0,sS]
     refine wpAnyH_done (by kernel_rfl) ?_ _
     refine NoPanic.normal ?_
     go_wp2_with fail
     go_meet
     refine ⟨_,Ax4,nx4,cx4,Bx4,mx4,dx4,Ay4,ny4,cy4,By4,my4,dy4,rfl,?_⟩
     exact ((((((aO.out.drop 7).drop 6).drop 5).drop 3).drop 2).drop 1)
    exact AllReadyH.nil
   refine ac rfl (fun K hK=>?_) ?_
   ·go_simp
    have cK:=Hd (dZ.out.allocE [.int .i64 0,.int .i64 0,.bool false,.slice none 0 0,.slice none 0 0,.bool false,.slice none 0 0,.slice none 0 0,.bool false,.slice none 0 0,.slice none 0 0] 40)
    clear dZ
    refine hK.out _ _ (aA _ _ _ _ _ cK.out) (fun aR=>?_)
    clear hK K
    try simp only [pm,s0,sS]
    refine wpAnyH_ready (rs:=[12]) (by kernel_rfl) (by simp) ?_
    refine a1 rfl fun K hK=>?_
    go_simp
    go_at_call_of 90 (Value.agg #[Value.bool V.s,(Value.slice Av nv cv),(Value.slice Bv mv dv)])
    go_at_call_of 90 (Value.agg #[Value.bool U.s,u0,u1])
    refine (times_f V U (.slice Av nv cv) (.slice Bv mv dv) u0 u1 _ GV.out GU.out (cK.out.lkA HM.out).p (cK.out.lkA HM.out).q).mono ?_
    rintro e wx2 ⟨vx2,ux2,rfl,ho,hb⟩
    obtain ⟨Ax2,nx2,cx2,rfl⟩:=(ho.at_ 0 rfl).shape3
    obtain ⟨Bx2,mx2,dx2,rfl⟩:=(ho.at_ 1 rfl).shape3
    rw [iA.out] at ho ⊢
    have cF:=Hd (cK.out.rows ho hb)
    clear cK ho hb
    refine hK.out _ _ (aA _ _ _ _ _ cF.out) (fun a0=>?_)
    clear hK K
    try simp only [pm,s0,sS]
    refine wpAnyH_ready (rs:=[13]) (by kernel_rfl) (by simp) ?_
    refine a1 rfl fun K hK=>?_
    go_simp
    go_at_call_of 43 (Value.agg #[Value.bool M1.s,(Value.slice Ax1 nx1 cx1),(Value.slice Bx1 mx1 dx1)])
    refine (plus_f M1 M2 (.slice Ax1 nx1 cx1) (.slice Bx1 mx1 dx1) (.slice Ax2 nx2 cx2) (.slice Bx2 mx2 dx2) _ (iD.out ▸ good_mul _ _) (iA.out ▸ good_mul _ _) (cF.out.fr 1 0 rfl rfl rfl) (cF.out.fr 0 0 rfl rfl rfl)).mono ?_
    rintro e wx3 ⟨vx3,ux3,rfl,ho,hb⟩
    obtain ⟨Ax3,nx3,cx3,rfl⟩:=(ho.at_ 0 rfl).shape3
    obtain ⟨Bx3,mx3,dx3,rfl⟩:=(ho.at_ 1 rfl).shape3
    rw [HN1.out] at ho ⊢
    have a4:=Hd (cF.out.rows ho hb)
    clear cF ho hb
    refine hK.out _ _ (aA _ _ _ _ _ a4.out) (fun cL=>?_)
    clear hK K
    try simp only [pm,s0,sS]
    refine wpAnyH_ready (rs:=[15]) (by kernel_rfl) (by simp) ?_
    refine a1 rfl fun K hK=>?_
    go_simp
    go_at_call_of 91 (Value.agg #[Value.bool N1.s,(Value.slice Ax3 nx3 cx3),(Value.slice Bx3 mx3 dx3)])
    refine (dividedBy_f N1 S (.slice Ax3 nx3 cx3) (.slice Bx3 mx3 dx3) (.slice A0 n0 c0) (.slice B0 m0 d0) _ (HN1.out ▸ good_add _ _) (HS.out ▸ good_add P V) (a4.out.fr 0 0 rfl rfl rfl) (a4.out.fr 3 0 rfl rfl rfl)).mono ?_
    rintro e wx4 ⟨vx4,ux4,rfl,ho,hb⟩
    obtain ⟨Ax4,nx4,cx4,rfl⟩:=(ho.at_ 0 rfl).shape3
    obtain ⟨Bx4,mx4,dx4,rfl⟩:=(ho.at_ 1 rfl).shape3
    rw [HX.out] at ho ⊢
    have aY:=Hd (a4.out.rows ho hb)
    clear a4 ho hb
    refine hK.out _ _ (aA _ _ _ _ _ aY.out) (fun cG=>?_)
    clear hK K
    try simp only [pm,s0,sS]
    refine wpAnyH_ready (rs:=[19]) (by kernel_rfl) (by simp) ?_
    refine a1 rfl fun K hK=>?_
    go_simp
    go_at_call_of 90 (Value.agg #[Value.bool P.s,(Value.slice Ap np cp),(Value.slice Bp mp dp)])
    go_at_call_of 90 (Value.agg #[Value.bool R.s,r0,r1])
    refine (times_f P R (.slice Ap np cp) (.slice Bp mp dp) r0 r1 _ GP.out GR.out (aY.out.lkA HL.out).p (aY.out.lkA HL.out).r).mono ?_
    rintro e wy1 ⟨vy1,uy1,rfl,ho,hb⟩
    obtain ⟨Ay1,ny1,cy1,rfl⟩:=(ho.at_ 0 rfl).shape3
    obtain ⟨By1,my1,dy1,rfl⟩:=(ho.at_ 1 rfl).shape3
    rw [dO.out] at ho ⊢
    have aG:=Hd (aY.out.rows ho hb)
    clear aY ho hb
    refine hK.out _ _ (aA _ _ _ _ _ aG.out) (fun a5=>?_)
    clear hK K
    try simp only [pm,s0,sS]
    refine wpAnyH_ready (rs:=[23]) (by kernel_rfl) (by simp) ?_
    refine a1 rfl fun K hK=>?_
    go_simp
    go_at_call_of 90 (Value.agg #[Value.bool V.s,(Value.slice Av nv cv),(Value.slice Bv mv dv)])
    go_at_call_of 90 (Value.agg #[Value.bool T.s,t0,t1])
    refine (times_f V T (.slice Av nv cv) (.slice Bv mv dv) t0 t1 _ GV.out GT.out (aG.out.lkA HM.out).p (aG.out.lkA HM.out).r).mono ?_
    rintro e wy2 ⟨vy2,uy2,rfl,ho,hb⟩
    obtain ⟨Ay2,ny2,cy2,rfl⟩:=(ho.at_ 0 rfl).shape3
    obtain ⟨By2,my2,dy2,rfl⟩:=(ho.at_ 1 rfl).shape3
    rw [cY.out] at ho ⊢
    have aC:=Hd (aG.out.rows ho hb)
    clear aG ho hb
    refine hK.out _ _ (aA _ _ _ _ _ aC.out) (fun a2=>?_)
    clear hK K
    try simp only [pm,s0,sS]
    refine wpAnyH_ready (rs:=[24]) (by kernel_rfl) (by simp) ?_
    refine a1 rfl fun K hK=>?_
    go_simp
    go_at_call_of 43 (Value.agg #[Value.bool M3.s,(Value.slice Ay1 ny1 cy1),(Value.slice By1 my1 dy1)])
    refine (plus_f M3 M4 (.slice Ay1 ny1 cy1) (.slice By1 my1 dy1) (.slice Ay2 ny2 cy2) (.slice By2 my2 dy2) _ (dO.out ▸ good_mul _ _) (cY.out ▸ good_mul _ _) (aC.out.fr 1 0 rfl rfl rfl) (aC.out.fr 0 0 rfl rfl rfl)).mono ?_
    rintro e wy3 ⟨vy3,uy3,rfl,ho,hb⟩
    obtain ⟨Ay3,ny3,cy3,rfl⟩:=(ho.at_ 0 rfl).shape3
    obtain ⟨By3,my3,dy3,rfl⟩:=(ho.at_ 1 rfl).shape3
    rw [HN2.out] at ho ⊢
    have aB:=Hd (aC.out.rows ho hb)
    clear aC ho hb
    refine hK.out _ _ (aA _ _ _ _ _ aB.out) (fun aV=>?_)
    clear hK K
    try simp only [pm,s0,sS]
    refine wpAnyH_ready (rs:=[26]) (by kernel_rfl) (by simp) ?_
    refine a1 rfl fun K hK=>?_
    go_simp
    go_at_call_of 91 (Value.agg #[Value.bool N2.s,(Value.slice Ay3 ny3 cy3),(Value.slice By3 my3 dy3)])
    refine (dividedBy_f N2 S (.slice Ay3 ny3 cy3) (.slice By3 my3 dy3) (.slice A0 n0 c0) (.slice B0 m0 d0) _ (HN2.out ▸ good_add _ _) (HS.out ▸ good_add P V) (aB.out.fr 0 0 rfl rfl rfl) (aB.out.fr 7 0 rfl rfl rfl)).mono ?_
    rintro e wy4 ⟨vy4,uy4,rfl,ho,hb⟩
    obtain ⟨Ay4,ny4,cy4,rfl⟩:=(ho.at_ 0 rfl).shape3
    obtain ⟨By4,my4,dy4,rfl⟩:=(ho.at_ 1 rfl).shape3
    rw [HY.out] at ho ⊢
    have aE:=Hd (aB.out.rows ho hb)
    clear aB ho hb
    refine hK.out _ _ (aA _ _ _ _ _ aE.out) (fun aQ=>?_)
    clear hK K
    try simp only [pm,s0,sS]
    refine tI 27 rfl ?_ ?_ ?_
    rotate_left
    ·intro w9 aH; (try dsimp only at aH); go_simp; try with_reducible rfl
    try simp only [pm,s0,sS]
    refine wpAnyH_ready (rs:=[29]) (by kernel_rfl) (by simp) ?_
    refine a1 rfl fun K hK=>?_
    rw [if_pos (by rfl)]
    refine wp_store_mid _ _ _ rfl _ _ (List.toArray [.int .i64 A,.int .i64 B,.bool S.s,(.slice A0 n0 c0),(.slice B0 m0 d0),.bool X.s,(.slice Ax4 nx4 cx4),(.slice Bx4 mx4 dx4),.bool Y.s,(.slice Ay4 ny4 cy4),(.slice By4 my4 dy4)]) rfl rfl (aE.out.there_ 7 rfl rfl) (size_link) (all_oneCell_toArray (cs:=[.int .i64 A,.int .i64 B,.bool S.s,(.slice A0 n0 c0),(.slice B0 m0 d0),.bool X.s,(.slice Ax4 nx4 cx4),(.slice Bx4 mx4 dx4),.bool Y.s,(.slice Ay4 ny4 cy4),(.slice By4 my4 dy4)]) (List.all_eq_true.mp rfl)) ?_
    simp only [Act.put]
    have aO:=Hd (aE.out.setKit 7 [.int .i64 A,.int .i64 B,.bool S.s,(.slice A0 n0 c0),(.slice B0 m0 d0),.bool X.s,(.slice Ax4 nx4 cx4),(.slice Bx4 mx4 dx4),.bool Y.s,(.slice Ay4 ny4 cy4),(.slice By4 my4 dy4)] rfl rfl)
    clear aE
    refine hK.out _ _ (aA _ _ _ _ _ aO.out) (fun aS=>?_)
    clear hK K
    try simp only [pm,s0,sS]
    refine wpAnyH_done (by kernel_rfl) ?_ _
    refine NoPanic.normal ?_
    go_wp2_with fail
    go_meet
    refine ⟨_,Ax4,nx4,cx4,Bx4,mx4,dx4,Ay4,ny4,cy4,By4,my4,dy4,rfl,?_⟩
    exact ((((((aO.out.drop 7).drop 6).drop 5).drop 3).drop 2).drop 1)
   exact AllReadyH.nil
  refine ac rfl (fun K hK=>?_) ?_
  ·go_simp
   have dZ:=Hd (bN.out.drew.allocE [.int .i64 0,.int .i64 0,.bool false,.slice none 0 0,.slice none 0 0,.bool false,.slice none 0 0,.slice none 0 0,.bool false,.slice none 0 0,.slice none 0 0] 40)
   clear bN
   refine hK.out _ _ (aA _ _ _ _ _ dZ.out) (fun aR=>?_)
   clear hK K
   try simp only [pm,s0,sS]
   refine wpAnyH_ready (rs:=[8]) (by kernel_rfl) (by simp) ?_
   refine a1 rfl fun K hK=>?_
   go_simp
   go_at_call_of 90 (Value.agg #[Value.bool P.s,(Value.slice Ap np cp),(Value.slice Bp mp dp)])
   go_at_call_of 90 (Value.agg #[Value.bool Q.s,q0,q1])
   refine (times_f P Q (.slice Ap np cp) (.slice Bp mp dp) q0 q1 _ GP.out GQ.out (dZ.out.lkA HL.out).p (dZ.out.lkA HL.out).q).mono ?_
   rintro e wx1 ⟨vx1,ux1,rfl,ho,hb⟩
   obtain ⟨Ax1,nx1,cx1,rfl⟩:=(ho.at_ 0 rfl).shape3
   obtain ⟨Bx1,mx1,dx1,rfl⟩:=(ho.at_ 1 rfl).shape3
   rw [iD.out] at ho ⊢
   have cK:=Hd (dZ.out.rows ho hb)
   clear dZ ho hb
   refine hK.out _ _ (aA _ _ _ _ _ cK.out) (fun cH=>?_)
   clear hK K
   try simp only [pm,s0,sS]
   refine wpAnyH_ready (rs:=[12]) (by kernel_rfl) (by simp) ?_
   refine a1 rfl fun K hK=>?_
   go_simp
   go_at_call_of 90 (Value.agg #[Value.bool V.s,(Value.slice Av nv cv),(Value.slice Bv mv dv)])
   go_at_call_of 90 (Value.agg #[Value.bool U.s,u0,u1])
   refine (times_f V U (.slice Av nv cv) (.slice Bv mv dv) u0 u1 _ GV.out GU.out (cK.out.lkA HM.out).p (cK.out.lkA HM.out).q).mono ?_
   rintro e wx2 ⟨vx2,ux2,rfl,ho,hb⟩
   obtain ⟨Ax2,nx2,cx2,rfl⟩:=(ho.at_ 0 rfl).shape3
   obtain ⟨Bx2,mx2,dx2,rfl⟩:=(ho.at_ 1 rfl).shape3
   rw [iA.out] at ho ⊢
   have cF:=Hd (cK.out.rows ho hb)
   clear cK ho hb
   refine hK.out _ _ (aA _ _ _ _ _ cF.out) (fun a0=>?_)
   clear hK K
   try simp only [pm,s0,sS]
   refine wpAnyH_ready (rs:=[13]) (by kernel_rfl) (by simp) ?_
   refine a1 rfl fun K hK=>?_
   go_simp
   go_at_call_of 43 (Value.agg #[Value.bool M1.s,(Value.slice Ax1 nx1 cx1),(Value.slice Bx1 mx1 dx1)])
   refine (plus_f M1 M2 (.slice Ax1 nx1 cx1) (.slice Bx1 mx1 dx1) (.slice Ax2 nx2 cx2) (.slice Bx2 mx2 dx2) _ (iD.out ▸ good_mul _ _) (iA.out ▸ good_mul _ _) (cF.out.fr 1 0 rfl rfl rfl) (cF.out.fr 0 0 rfl rfl rfl)).mono ?_
   rintro e wx3 ⟨vx3,ux3,rfl,ho,hb⟩
   obtain ⟨Ax3,nx3,cx3,rfl⟩:=(ho.at_ 0 rfl).shape3
   obtain ⟨Bx3,mx3,dx3,rfl⟩:=(ho.at_ 1 rfl).shape3
   rw [HN1.out] at ho ⊢
   have a4:=Hd (cF.out.rows ho hb)
   clear cF ho hb
   refine hK.out _ _ (aA _ _ _ _ _ a4.out) (fun cL=>?_)
   clear hK K
   try simp only [pm,s0,sS]
   refine wpAnyH_ready (rs:=[15]) (by kernel_rfl) (by simp) ?_
   refine a1 rfl fun K hK=>?_
   go_simp
   go_at_call_of 91 (Value.agg #[Value.bool N1.s,(Value.slice Ax3 nx3 cx3),(Value.slice Bx3 mx3 dx3)])
   refine (dividedBy_f N1 S (.slice Ax3 nx3 cx3) (.slice Bx3 mx3 dx3) (.slice A0 n0 c0) (.slice B0 m0 d0) _ (HN1.out ▸ good_add _ _) (HS.out ▸ good_add P V) (a4.out.fr 0 0 rfl rfl rfl) (a4.out.fr 3 0 rfl rfl rfl)).mono ?_
   rintro e wx4 ⟨vx4,ux4,rfl,ho,hb⟩
   obtain ⟨Ax4,nx4,cx4,rfl⟩:=(ho.at_ 0 rfl).shape3
   obtain ⟨Bx4,mx4,dx4,rfl⟩:=(ho.at_ 1 rfl).shape3
   rw [HX.out] at ho ⊢
   have aY:=Hd (a4.out.rows ho hb)
   clear a4 ho hb
   refine hK.out _ _ (aA _ _ _ _ _ aY.out) (fun cG=>?_)
   clear hK K
   try simp only [pm,s0,sS]
   refine wpAnyH_ready (rs:=[19]) (by kernel_rfl) (by simp) ?_
   refine a1 rfl fun K hK=>?_
   go_simp
   go_at_call_of 90 (Value.agg #[Value.bool P.s,(Value.slice Ap np cp),(Value.slice Bp mp dp)])
   go_at_call_of 90 (Value.agg #[Value.bool R.s,r0,r1])
   refine (times_f P R (.slice Ap np cp) (.slice Bp mp dp) r0 r1 _ GP.out GR.out (aY.out.lkA HL.out).p (aY.out.lkA HL.out).r).mono ?_
   rintro e wy1 ⟨vy1,uy1,rfl,ho,hb⟩
   obtain ⟨Ay1,ny1,cy1,rfl⟩:=(ho.at_ 0 rfl).shape3
   obtain ⟨By1,my1,dy1,rfl⟩:=(ho.at_ 1 rfl).shape3
   rw [dO.out] at ho ⊢
   have aG:=Hd (aY.out.rows ho hb)
   clear aY ho hb
   refine hK.out _ _ (aA _ _ _ _ _ aG.out) (fun a5=>?_)
   clear hK K
   try simp only [pm,s0,sS]
   refine wpAnyH_ready (rs:=[23]) (by kernel_rfl) (by simp) ?_
   refine a1 rfl fun K hK=>?_
   go_simp
   go_at_call_of 90 (Value.agg #[Value.bool V.s,(Value.slice Av nv cv),(Value.slice Bv mv dv)])
   go_at_call_of 90 (Value.agg #[Value.bool T.s,t0,t1])
   refine (times_f V T (.slice Av nv cv) (.slice Bv mv dv) t0 t1 _ GV.out GT.out (aG.out.lkA HM.out).p (aG.out.lkA HM.out).r).mono ?_
   rintro e wy2 ⟨vy2,uy2,rfl,ho,hb⟩
   obtain ⟨Ay2,ny2,cy2,rfl⟩:=(ho.at_ 0 rfl).shape3
   obtain ⟨By2,my2,dy2,rfl⟩:=(ho.at_ 1 rfl).shape3
   rw [cY.out] at ho ⊢
   have aC:=Hd (aG.out.rows ho hb)
   clear aG ho hb
   refine hK.out _ _ (aA _ _ _ _ _ aC.out) (fun a2=>?_)
   clear hK K
   try simp only [pm,s0,sS]
   refine wpAnyH_ready (rs:=[24]) (by kernel_rfl) (by simp) ?_
   refine a1 rfl fun K hK=>?_
   go_simp
   go_at_call_of 43 (Value.agg #[Value.bool M3.s,(Value.slice Ay1 ny1 cy1),(Value.slice By1 my1 dy1)])
   refine (plus_f M3 M4 (.slice Ay1 ny1 cy1) (.slice By1 my1 dy1) (.slice Ay2 ny2 cy2) (.slice By2 my2 dy2) _ (dO.out ▸ good_mul _ _) (cY.out ▸ good_mul _ _) (aC.out.fr 1 0 rfl rfl rfl) (aC.out.fr 0 0 rfl rfl rfl)).mono ?_
   rintro e wy3 ⟨vy3,uy3,rfl,ho,hb⟩
   obtain ⟨Ay3,ny3,cy3,rfl⟩:=(ho.at_ 0 rfl).shape3
   obtain ⟨By3,my3,dy3,rfl⟩:=(ho.at_ 1 rfl).shape3
   rw [HN2.out] at ho ⊢
   have aB:=Hd (aC.out.rows ho hb)
   clear aC ho hb
   refine hK.out _ _ (aA _ _ _ _ _ aB.out) (fun aV=>?_)
   clear hK K
   try simp only [pm,s0,sS]
   refine wpAnyH_ready (rs:=[26]) (by kernel_rfl) (by simp) ?_
   refine a1 rfl fun K hK=>?_
   go_simp
   go_at_call_of 91 (Value.agg #[Value.bool N2.s,(Value.slice Ay3 ny3 cy3),(Value.slice By3 my3 dy3)])
   refine (dividedBy_f N2 S (.slice Ay3 ny3 cy3) (.slice By3 my3 dy3) (.slice A0 n0 c0) (.slice B0 m0 d0) _ (HN2.out ▸ good_add _ _) (HS.out ▸ good_add P V) (aB.out.fr 0 0 rfl rfl rfl) (aB.out.fr 7 0 rfl rfl rfl)).mono ?_
   rintro e wy4 ⟨vy4,uy4,rfl,ho,hb⟩
   obtain ⟨Ay4,ny4,cy4,rfl⟩:=(ho.at_ 0 rfl).shape3
   obtain ⟨By4,my4,dy4,rfl⟩:=(ho.at_ 1 rfl).shape3
   rw [HY.out] at ho ⊢
   have aE:=Hd (aB.out.rows ho hb)
   clear aB ho hb
   refine hK.out _ _ (aA _ _ _ _ _ aE.out) (fun aQ=>?_)
   clear hK K
   try simp only [pm,s0,sS]
   refine tI 27 rfl ?_ ?_ ?_
   rotate_left
   ·intro w9 aH; (try dsimp only at aH); go_simp; try with_reducible rfl
   try simp only [pm,s0,sS]
   refine wpAnyH_ready (rs:=[29]) (by kernel_rfl) (by simp) ?_
   refine a1 rfl fun K hK=>?_
   rw [if_pos (by rfl)]
   refine wp_store_mid _ _ _ rfl _ _ (List.toArray [.int .i64 A,.int .i64 B,.bool S.s,(.slice A0 n0 c0),(.slice B0 m0 d0),.bool X.s,(.slice Ax4 nx4 cx4),(.slice Bx4 mx4 dx4),.bool Y.s,(.slice Ay4 ny4 cy4),(.slice By4 my4 dy4)]) rfl rfl (aE.out.there_ 7 rfl rfl) (size_link) (all_oneCell_toArray (cs:=[.int .i64 A,.int .i64 B,.bool S.s,(.slice A0 n0 c0),(.slice B0 m0 d0),.bool X.s,(.slice Ax4 nx4 cx4),(.slice Bx4 mx4 dx4),.bool Y.s,(.slice Ay4 ny4 cy4),(.slice By4 my4 dy4)]) (List.all_eq_true.mp rfl)) ?_
   simp only [Act.put]
   have aO:=Hd (aE.out.setKit 7 [.int .i64 A,.int .i64 B,.bool S.s,(.slice A0 n0 c0),(.slice B0 m0 d0),.bool X.s,(.slice Ax4 nx4 cx4),(.slice Bx4 mx4 dx4),.bool Y.s,(.slice Ay4 ny4 cy4),(.slice By4 my4 dy4)] rfl rfl)
   clear aE
   refine hK.out _ _ (aA _ _ _ _ _ aO.out) (fun aS=>?_)
   clear hK K
   try simp only [pm,s0,sS]
   refine wpAnyH_done (by kernel_rfl) ?_ _
   refine NoPanic.normal ?_
   go_wp2_with fail
   go_meet
   refine ⟨_,Ax4,nx4,cx4,Bx4,mx4,dx4,Ay4,ny4,cy4,By4,my4,dy4,rfl,?_⟩
   exact ((((((aO.out.drop 7).drop 6).drop 5).drop 3).drop 2).drop 1)
  exact AllReadyH.nil
 obtain ⟨gC,Ax4,nx4,cx4,Bx4,mx4,dx4,Ay4,ny4,cy4,By4,my4,dy4,rfl,hst⟩:=hcut
 have aP:=Hd hst
 clear hst bN
 have iH:=aP.out.ne 0 7 rfl rfl (by decide)
 have iI:=aP.out.ne 7 0 rfl rfl (by decide)
 have iJ:=aP.out.ne 1 7 rfl rfl (by decide)
 have iK:=aP.out.ne 7 1 rfl rfl (by decide)
 have gD:=aP.out.ne 2 7 rfl rfl (by decide)
 have gE:=aP.out.ne 7 2 rfl rfl (by decide)
 have gF:=aP.out.ne 3 7 rfl rfl (by decide)
 have gG:=aP.out.ne 7 3 rfl rfl (by decide)
 have gH:=aP.out.ne 4 7 rfl rfl (by decide)
 have gI:=aP.out.ne 7 4 rfl rfl (by decide)
 have gJ:=aP.out.ne 5 7 rfl rfl (by decide)
 have gK:=aP.out.ne 7 5 rfl rfl (by decide)
 have c8:=aP.out.ne 6 7 rfl rfl (by decide)
 have c9:=aP.out.ne 7 6 rfl rfl (by decide)
 obtain ⟨wd,hwd⟩ : ∃ u,wc = u:=⟨_,rfl⟩
 rw [hwd] at aP ⊢
 clear hwd
 obtain ⟨d1,d2,d4,d5,d6,d7,d8,d9,eA,eB,dA⟩:=aP.out.c11 3 rfl
 obtain ⟨eC,eD,eE,eF,eH,eI,eJ,eK,eL,eM,dB⟩:=aP.out.c11 2 rfl
 go_upto_region 4 with fail
 clear d1 d2 d4 d5 d6 d7 d8 d9 eA eB dA eC eD eE eF eH eI eJ eK eL eM dB
 go_cut [11] (fun ptr wx=>∃ blk Az3 nz3 cz3 Bz3 mz3 dz3,ptr = .pointer (some ⟨blk,0,none⟩) ∧ St w wx [(w.heap.size + 1 + 1 + 1,[.bool false,.slice none 0 0,.slice none 0 0]),(w.heap.size + 1 + 1,[.int .i64 0,.int .i64 0,.bool false,.slice none 0 0,.slice none 0 0,.bool false,.slice none 0 0,.slice none 0 0,.bool false,.slice none 0 0,.slice none 0 0]),(w.heap.size + 1,[.int .i64 C,.int .i64 E,.bool V.s,(.slice Av nv cv),(.slice Bv mv dv),.bool U.s,u0,u1,.bool T.s,t0,t1]),(w.heap.size,[.int .i64 A,.int .i64 B,.bool P.s,(.slice Ap np cp),(.slice Bp mp dp),.bool Q.s,q0,q1,.bool R.s,r0,r1]),(cS,[.bool P.s,(.slice Ap np cp),(.slice Bp mp dp)]),(cT,[.bool V.s,(.slice Av nv cv),(.slice Bv mv dv)]),(w1.heap.size,[.bool S.s,(.slice A0 n0 c0),(.slice B0 m0 d0)]),(gC,[.int .i64 A,.int .i64 B,.bool S.s,(.slice A0 n0 c0),(.slice B0 m0 d0),.bool X.s,(.slice Ax4 nx4 cx4),(.slice Bx4 mx4 dx4),.bool Y.s,(.slice Ay4 ny4 cy4),(.slice By4 my4 dy4)]),(blk,[.bool H.s,(.slice Az3 nz3 cz3),(.slice Bz3 mz3 dz3)])] [[((.slice Az3 nz3 cz3),ints H.xs),((.slice Bz3 mz3 dz3),ints H.ys)],[((.slice Ay4 ny4 cy4),ints Y.xs),((.slice By4 my4 dy4),ints Y.ys)],[((.slice Ax4 nx4 cx4),ints X.xs),((.slice Bx4 mx4 dx4),ints X.ys)],[((.slice A0 n0 c0),ints S.xs),((.slice B0 m0 d0),ints S.ys)]])
 case first=>
  have aI : ∀ (w' : World) (x0_ x1_ x2_ x3_ x4_ x5_ : List Value) (bs' : List (Nat × List Value)) (cs' : List Chunk),St w w' ((w.heap.size + 1 + 1 + 1,x0_) :: (w.heap.size + 1 + 1,x1_) :: (w.heap.size + 1,[.int .i64 C,.int .i64 E,.bool V.s,(.slice Av nv cv),(.slice Bv mv dv),.bool U.s,u0,u1,.bool T.s,t0,t1]) :: (w.heap.size,[.int .i64 A,.int .i64 B,.bool P.s,(.slice Ap np cp),(.slice Bp mp dp),.bool Q.s,q0,q1,.bool R.s,r0,r1]) :: (cS,x2_) :: (cT,x3_) :: (w1.heap.size,x4_) :: (gC,x5_) :: bs') cs' → w'.cell? ⟨w.heap.size + 1,0,none⟩ = some (.int .i64 C) ∧ w'.cell? ⟨w.heap.size + 1,1,none⟩ = some (.int .i64 E) ∧ w'.cell? ⟨w.heap.size + 1,2,none⟩ = some (.bool V.s) ∧ w'.cell? ⟨w.heap.size + 1,3,none⟩ = some ((.slice Av nv cv)) ∧ w'.cell? ⟨w.heap.size + 1,4,none⟩ = some ((.slice Bv mv dv)) ∧ w'.cell? ⟨w.heap.size + 1,5,none⟩ = some (.bool U.s) ∧ w'.cell? ⟨w.heap.size + 1,6,none⟩ = some (u0) ∧ w'.cell? ⟨w.heap.size + 1,7,none⟩ = some (u1) ∧ w'.cell? ⟨w.heap.size + 1,8,none⟩ = some (.bool T.s) ∧ w'.cell? ⟨w.heap.size + 1,9,none⟩ = some (t0) ∧ w'.cell? ⟨w.heap.size + 1,10,none⟩ = some (t1) ∧ w'.cell? ⟨w.heap.size,0,none⟩ = some (.int .i64 A) ∧ w'.cell? ⟨w.heap.size,1,none⟩ = some (.int .i64 B) ∧ w'.cell? ⟨w.heap.size,2,none⟩ = some (.bool P.s) ∧ w'.cell? ⟨w.heap.size,3,none⟩ = some ((.slice Ap np cp)) ∧ w'.cell? ⟨w.heap.size,4,none⟩ = some ((.slice Bp mp dp)) ∧ w'.cell? ⟨w.heap.size,5,none⟩ = some (.bool Q.s) ∧ w'.cell? ⟨w.heap.size,6,none⟩ = some (q0) ∧ w'.cell? ⟨w.heap.size,7,none⟩ = some (q1) ∧ w'.cell? ⟨w.heap.size,8,none⟩ = some (.bool R.s) ∧ w'.cell? ⟨w.heap.size,9,none⟩ = some (r0) ∧ w'.cell? ⟨w.heap.size,10,none⟩ = some (r1):=fun w' x0_ x1_ x2_ x3_ x4_ x5_ bs' cs' h=>(h.d11 2 rfl (h.c11 3 rfl))
  refine wp_region_noPanic ?_
  refine wp_region_held_drew (S:=(fun w' =>w'.cell? ⟨w.heap.size + 1,0,none⟩ = some (.int .i64 C) ∧ w'.cell? ⟨w.heap.size + 1,1,none⟩ = some (.int .i64 E) ∧ w'.cell? ⟨w.heap.size + 1,2,none⟩ = some (.bool V.s) ∧ w'.cell? ⟨w.heap.size + 1,3,none⟩ = some ((.slice Av nv cv)) ∧ w'.cell? ⟨w.heap.size + 1,4,none⟩ = some ((.slice Bv mv dv)) ∧ w'.cell? ⟨w.heap.size + 1,5,none⟩ = some (.bool U.s) ∧ w'.cell? ⟨w.heap.size + 1,6,none⟩ = some (u0) ∧ w'.cell? ⟨w.heap.size + 1,7,none⟩ = some (u1) ∧ w'.cell? ⟨w.heap.size + 1,8,none⟩ = some (.bool T.s) ∧ w'.cell? ⟨w.heap.size + 1,9,none⟩ = some (t0) ∧ w'.cell? ⟨w.heap.size + 1,10,none⟩ = some (t1) ∧ w'.cell? ⟨w.heap.size,0,none⟩ = some (.int .i64 A) ∧ w'.cell? ⟨w.heap.size,1,none⟩ = some (.int .i64 B) ∧ w'.cell? ⟨w.heap.size,2,none⟩ = some (.bool P.s) ∧ w'.cell? ⟨w.heap.size,3,none⟩ = some ((.slice Ap np cp)) ∧ w'.cell? ⟨w.heap.size,4,none⟩ = some ((.slice Bp mp dp)) ∧ w'.cell? ⟨w.heap.size,5,none⟩ = some (.bool Q.s) ∧ w'.cell? ⟨w.heap.size,6,none⟩ = some (q0) ∧ w'.cell? ⟨w.heap.size,7,none⟩ = some (q1) ∧ w'.cell? ⟨w.heap.size,8,none⟩ = some (.bool R.s) ∧ w'.cell? ⟨w.heap.size,9,none⟩ = some (r0) ∧ w'.cell? ⟨w.heap.size,10,none⟩ = some (r1))) (by kernel_rfl) ?_ (fun hI=>?_)
  ·exact aI _ _ _ _ _ _ _ _ _ aP.out.drew
  refine tI 0 rfl ?_ ?_ ?_
  rotate_left
  ·intro w9 aH; (try dsimp only at aH); go_simp; try with_reducible rfl
  try simp only [pm,s0,sS]
  refine tI 1 rfl ?_ ?_ ?_
  rotate_left
  ·intro w9 aH; (try dsimp only at aH); go_simp; try with_reducible rfl
  try simp only [pm,s0,sS]
  refine tI 2 rfl ?_ ?_ ?_
  rotate_left
  ·intro w9 aH; (try dsimp only at aH); go_simp; try with_reducible rfl
  try simp only [pm,s0,sS]
  refine tI 3 rfl ?_ ?_ ?_
  rotate_left
  ·intro w9 aH; (try dsimp only at aH); go_simp; try with_reducible rfl
  try simp only [pm,s0,sS]
  refine tI 5 rfl ?_ ?_ ?_
  rotate_left
  ·intro w9 aH; (try dsimp only at aH); go_simp; try with_reducible rfl
  try simp only [pm,s0,sS]
  refine tI 6 rfl ?_ ?_ ?_
  rotate_left
  ·intro w9 aH; (try dsimp only at aH); go_simp; try with_reducible rfl
  try simp only [pm,s0,sS]
  refine tI 7 rfl ?_ ?_ ?_
  rotate_left
  ·intro w9 aH; (try dsimp only at aH); go_simp; try with_reducible rfl
  try simp only [pm,s0,sS]
  refine tI 8 rfl ?_ ?_ ?_
  rotate_left
  ·intro w9 aH; (try dsimp only at aH); go_simp; try with_reducible rfl
  try simp only [pm,s0,sS]
  refine wpAnyH_ready (rs:=[4,11]) (by kernel_rfl) (by simp) ?_
  refine ac rfl (fun K hK=>?_) ?_
  ·go_simp
   go_at_call_of 93 (Value.agg #[Value.bool Q.s,q0,q1])
   refine (minus_f Q U q0 q1 u0 u1 _ GQ.out GU.out (aP.out.drew.lkA HL.out).q (aP.out.drew.lkA HM.out).q).mono ?_
   rintro e wz1 ⟨vz1,uz1,rfl,ho,hb⟩
   obtain ⟨Az1,nz1,cz1,rfl⟩:=(ho.at_ 0 rfl).shape3
   obtain ⟨Bz1,mz1,dz1,rfl⟩:=(ho.at_ 1 rfl).shape3
   rw [iE.out] at ho ⊢
   have bM:=Hd (aP.out.drew.rows ho hb)
   clear aP ho hb
   refine hK.out _ _ (aI _ _ _ _ _ _ _ _ _ bM.out) (fun cM=>?_)
   clear hK K
   try simp only [pm,s0,sS]
   refine wpAnyH_ready (rs:=[9,11]) (by kernel_rfl) (by simp) ?_
   refine ac rfl (fun K hK=>?_) ?_
   ·go_simp
    go_at_call_of 93 (Value.agg #[Value.bool R.s,r0,r1])
    refine (minus_f R T r0 r1 t0 t1 _ GR.out GT.out (bM.out.lkA HL.out).r (bM.out.lkA HM.out).r).mono ?_
    rintro e wz2 ⟨vz2,uz2,rfl,ho,hb⟩
    obtain ⟨Az2,nz2,cz2,rfl⟩:=(ho.at_ 0 rfl).shape3
    obtain ⟨Bz2,mz2,dz2,rfl⟩:=(ho.at_ 1 rfl).shape3
    rw [iB.out] at ho ⊢
    have aW:=Hd (bM.out.rows ho hb)
    clear bM ho hb
    refine hK.out _ _ (aI _ _ _ _ _ _ _ _ _ aW.out) (fun gL=>?_)
    clear hK K
    try simp only [pm,s0,sS]
    refine wpAnyH_ready (rs:=[10,11]) (by kernel_rfl) (by simp) ?_
    refine ac rfl (fun K hK=>?_) ?_
    ·go_simp
     go_at_call 92
     refine (sumOfSquares_f D1 D2 (.slice Az1 nz1 cz1) (.slice Bz1 mz1 dz1) (.slice Az2 nz2 cz2) (.slice Bz2 mz2 dz2) _ (iE.out ▸ good_sub _ _) (iB.out ▸ good_sub _ _) (aW.out.fr 1 0 rfl rfl rfl) (aW.out.fr 0 0 rfl rfl rfl)).mono ?_
     rintro e wz3 ⟨vz3,uz3,rfl,ho,hb⟩
     obtain ⟨Az3,nz3,cz3,rfl⟩:=(ho.at_ 0 rfl).shape3
     obtain ⟨Bz3,mz3,dz3,rfl⟩:=(ho.at_ 1 rfl).shape3
     rw [HH.out] at ho ⊢
     have aT:=Hd (aW.out.rows ho hb)
     clear aW ho hb
     refine hK.out _ _ (aI _ _ _ _ _ _ _ _ _ aT.out) (fun cN=>?_)
     clear hK K
     try simp only [pm,s0,sS]
     refine wpAnyH_ready (rs:=[11]) (by kernel_rfl) (by simp) ?_
     refine a1 rfl fun K hK=>?_
     go_simp
     have aX:=Hd (aT.out.allocE [.bool false,.slice none 0 0,.slice none 0 0] 35)
     clear aT
     refine hK.out _ _ (aI _ _ _ _ _ _ _ _ _ aX.out) (fun cO=>?_)
     clear hK K
     try simp only [pm,s0,sS]
     refine wpAnyH_ready (rs:=[12]) (by kernel_rfl) (by simp) ?_
     refine a1 rfl fun K hK=>?_
     rw [if_pos (by rfl)]
     refine wp_store_mid _ _ _ rfl _ _ (List.toArray [.bool H.s,(.slice Az3 nz3 cz3),(.slice Bz3 mz3 dz3)]) rfl rfl (aX.out.there_ 8 rfl rfl) (size_rat) (all_oneCell_toArray (cs:=[.bool H.s,(.slice Az3 nz3 cz3),(.slice Bz3 mz3 dz3)]) (List.all_eq_true.mp rfl)) ?_
     simp only [Act.put]
     have cI:=Hd (aX.out.setKit 8 [.bool H.s,(.slice Az3 nz3 cz3),(.slice Bz3 mz3 dz3)] rfl rfl)
     clear aX
     refine hK.out _ _ (aI _ _ _ _ _ _ _ _ _ cI.out) (fun a0=>?_)
     clear hK K
     try simp only [pm,s0,sS]
     refine wpAnyH_done (by kernel_rfl) ?_ _
     refine NoPanic.normal ?_
     go_wp2_with fail
     go_meet
     refine ⟨_,Az3,nz3,cz3,Bz3,mz3,dz3,rfl,?_⟩
     exact ((cI.out.drop 2).drop 1)
    refine ac rfl (fun K hK=>?_) ?_
    ·go_simp
     have aT:=Hd (aW.out.allocE [.bool false,.slice none 0 0,.slice none 0 0] 35)
     clear aW
     refine hK.out _ _ (aI _ _ _ _ _ _ _ _ _ aT.out) (fun cO=>?_)
     clear hK K
     try simp only [pm,s0,sS]
     refine wpAnyH_ready (rs:=[10]) (by kernel_rfl) (by simp) ?_
     refine a1 rfl fun K hK=>?_
     go_simp
     go_at_call 92
     refine (sumOfSquares_f D1 D2 (.slice Az1 nz1 cz1) (.slice Bz1 mz1 dz1) (.slice Az2 nz2 cz2) (.slice Bz2 mz2 dz2) _ (iE.out ▸ good_sub _ _) (iB.out ▸ good_sub _ _) (aT.out.fr 1 0 rfl rfl rfl) (aT.out.fr 0 0 rfl rfl rfl)).mono ?_
     rintro e wz3 ⟨vz3,uz3,rfl,ho,hb⟩
     obtain ⟨Az3,nz3,cz3,rfl⟩:=(ho.at_ 0 rfl).shape3
     obtain ⟨Bz3,mz3,dz3,rfl⟩:=(ho.at_ 1 rfl).shape3
     rw [HH.out] at ho ⊢
     have aX:=Hd (aT.out.rows ho hb)
     clear aT ho hb
     refine hK.out _ _ (aI _ _ _ _ _ _ _ _ _ aX.out) (fun cN=>?_)
     clear hK K
     try simp only [pm,s0,sS]
     refine wpAnyH_ready (rs:=[12]) (by kernel_rfl) (by simp) ?_
     refine a1 rfl fun K hK=>?_
     rw [if_pos (by rfl)]
     refine wp_store_mid _ _ _ rfl _ _ (List.toArray [.bool H.s,(.slice Az3 nz3 cz3),(.slice Bz3 mz3 dz3)]) rfl rfl (aX.out.there_ 8 rfl rfl) (size_rat) (all_oneCell_toArray (cs:=[.bool H.s,(.slice Az3 nz3 cz3),(.slice Bz3 mz3 dz3)]) (List.all_eq_true.mp rfl)) ?_
     simp only [Act.put]
     have cI:=Hd (aX.out.setKit 8 [.bool H.s,(.slice Az3 nz3 cz3),(.slice Bz3 mz3 dz3)] rfl rfl)
     clear aX
     refine hK.out _ _ (aI _ _ _ _ _ _ _ _ _ cI.out) (fun a0=>?_)
     clear hK K
     try simp only [pm,s0,sS]
     refine wpAnyH_done (by kernel_rfl) ?_ _
     refine NoPanic.normal ?_
     go_wp2_with fail
     go_meet
     refine ⟨_,Az3,nz3,cz3,Bz3,mz3,dz3,rfl,?_⟩
     exact ((cI.out.drop 2).drop 1)
    exact AllReadyH.nil
   refine ac rfl (fun K hK=>?_) ?_
   ·go_simp
    have aW:=Hd (bM.out.allocE [.bool false,.slice none 0 0,.slice none 0 0] 35)
    clear bM
    refine hK.out _ _ (aI _ _ _ _ _ _ _ _ _ aW.out) (fun cO=>?_)
    clear hK K
    try simp only [pm,s0,sS]
    refine wpAnyH_ready (rs:=[9]) (by kernel_rfl) (by simp) ?_
    refine a1 rfl fun K hK=>?_
    go_simp
    go_at_call_of 93 (Value.agg #[Value.bool R.s,r0,r1])
    refine (minus_f R T r0 r1 t0 t1 _ GR.out GT.out (aW.out.lkA HL.out).r (aW.out.lkA HM.out).r).mono ?_
    rintro e wz2 ⟨vz2,uz2,rfl,ho,hb⟩
    obtain ⟨Az2,nz2,cz2,rfl⟩:=(ho.at_ 0 rfl).shape3
    obtain ⟨Bz2,mz2,dz2,rfl⟩:=(ho.at_ 1 rfl).shape3
    rw [iB.out] at ho ⊢
    have aT:=Hd (aW.out.rows ho hb)
    clear aW ho hb
    refine hK.out _ _ (aI _ _ _ _ _ _ _ _ _ aT.out) (fun gL=>?_)
    clear hK K
    try simp only [pm,s0,sS]
    refine wpAnyH_ready (rs:=[10]) (by kernel_rfl) (by simp) ?_
    refine a1 rfl fun K hK=>?_
    go_simp
    go_at_call 92
    refine (sumOfSquares_f D1 D2 (.slice Az1 nz1 cz1) (.slice Bz1 mz1 dz1) (.slice Az2 nz2 cz2) (.slice Bz2 mz2 dz2) _ (iE.out ▸ good_sub _ _) (iB.out ▸ good_sub _ _) (aT.out.fr 1 0 rfl rfl rfl) (aT.out.fr 0 0 rfl rfl rfl)).mono ?_
    rintro e wz3 ⟨vz3,uz3,rfl,ho,hb⟩
    obtain ⟨Az3,nz3,cz3,rfl⟩:=(ho.at_ 0 rfl).shape3
    obtain ⟨Bz3,mz3,dz3,rfl⟩:=(ho.at_ 1 rfl).shape3
    rw [HH.out] at ho ⊢
    have aX:=Hd (aT.out.rows ho hb)
    clear aT ho hb
    refine hK.out _ _ (aI _ _ _ _ _ _ _ _ _ aX.out) (fun cN=>?_)
    clear hK K
    try simp only [pm,s0,sS]
    refine wpAnyH_ready (rs:=[12]) (by kernel_rfl) (by simp) ?_
    refine a1 rfl fun K hK=>?_
    rw [if_pos (by rfl)]
    refine wp_store_mid _ _ _ rfl _ _ (List.toArray [.bool H.s,(.slice Az3 nz3 cz3),(.slice Bz3 mz3 dz3)]) rfl rfl (aX.out.there_ 8 rfl rfl) (size_rat) (all_oneCell_toArray (cs:=[.bool H.s,(.slice Az3 nz3 cz3),(.slice Bz3 mz3 dz3)]) (List.all_eq_true.mp rfl)) ?_
    simp only [Act.put]
    have cI:=Hd (aX.out.setKit 8 [.bool H.s,(.slice Az3 nz3 cz3),(.slice Bz3 mz3 dz3)] rfl rfl)
    clear aX
    refine hK.out _ _ (aI _ _ _ _ _ _ _ _ _ cI.out) (fun a0=>?_)
    clear hK K
    try simp only [pm,s0,sS]
    refine wpAnyH_done (by kernel_rfl) ?_ _
    refine NoPanic.normal ?_
    go_wp2_with fail
    go_meet
    refine ⟨_,Az3,nz3,cz3,Bz3,mz3,dz3,rfl,?_⟩
    exact ((cI.out.drop 2).drop 1)
   exact AllReadyH.nil
  refine ac rfl (fun K hK=>?_) ?_
  ·go_simp
   have bM:=Hd (aP.out.drew.allocE [.bool false,.slice none 0 0,.slice none 0 0] 35)
   clear aP
   refine hK.out _ _ (aI _ _ _ _ _ _ _ _ _ bM.out) (fun cO=>?_)
   clear hK K
   try simp only [pm,s0,sS]
   refine wpAnyH_ready (rs:=[4]) (by kernel_rfl) (by simp) ?_
   refine a1 rfl fun K hK=>?_
   go_simp
   go_at_call_of 93 (Value.agg #[Value.bool Q.s,q0,q1])
   refine (minus_f Q U q0 q1 u0 u1 _ GQ.out GU.out (bM.out.lkA HL.out).q (bM.out.lkA HM.out).q).mono ?_
   rintro e wz1 ⟨vz1,uz1,rfl,ho,hb⟩
   obtain ⟨Az1,nz1,cz1,rfl⟩:=(ho.at_ 0 rfl).shape3
   obtain ⟨Bz1,mz1,dz1,rfl⟩:=(ho.at_ 1 rfl).shape3
   rw [iE.out] at ho ⊢
   have aW:=Hd (bM.out.rows ho hb)
   clear bM ho hb
   refine hK.out _ _ (aI _ _ _ _ _ _ _ _ _ aW.out) (fun cM=>?_)
   clear hK K
   try simp only [pm,s0,sS]
   refine wpAnyH_ready (rs:=[9]) (by kernel_rfl) (by simp) ?_
   refine a1 rfl fun K hK=>?_
   go_simp
   go_at_call_of 93 (Value.agg #[Value.bool R.s,r0,r1])
   refine (minus_f R T r0 r1 t0 t1 _ GR.out GT.out (aW.out.lkA HL.out).r (aW.out.lkA HM.out).r).mono ?_
   rintro e wz2 ⟨vz2,uz2,rfl,ho,hb⟩
   obtain ⟨Az2,nz2,cz2,rfl⟩:=(ho.at_ 0 rfl).shape3
   obtain ⟨Bz2,mz2,dz2,rfl⟩:=(ho.at_ 1 rfl).shape3
   rw [iB.out] at ho ⊢
   have aT:=Hd (aW.out.rows ho hb)
   clear aW ho hb
   refine hK.out _ _ (aI _ _ _ _ _ _ _ _ _ aT.out) (fun gL=>?_)
   clear hK K
   try simp only [pm,s0,sS]
   refine wpAnyH_ready (rs:=[10]) (by kernel_rfl) (by simp) ?_
   refine a1 rfl fun K hK=>?_
   go_simp
   go_at_call 92
   refine (sumOfSquares_f D1 D2 (.slice Az1 nz1 cz1) (.slice Bz1 mz1 dz1) (.slice Az2 nz2 cz2) (.slice Bz2 mz2 dz2) _ (iE.out ▸ good_sub _ _) (iB.out ▸ good_sub _ _) (aT.out.fr 1 0 rfl rfl rfl) (aT.out.fr 0 0 rfl rfl rfl)).mono ?_
   rintro e wz3 ⟨vz3,uz3,rfl,ho,hb⟩
   obtain ⟨Az3,nz3,cz3,rfl⟩:=(ho.at_ 0 rfl).shape3
   obtain ⟨Bz3,mz3,dz3,rfl⟩:=(ho.at_ 1 rfl).shape3
   rw [HH.out] at ho ⊢
   have aX:=Hd (aT.out.rows ho hb)
   clear aT ho hb
   refine hK.out _ _ (aI _ _ _ _ _ _ _ _ _ aX.out) (fun cN=>?_)
   clear hK K
   try simp only [pm,s0,sS]
   refine wpAnyH_ready (rs:=[12]) (by kernel_rfl) (by simp) ?_
   refine a1 rfl fun K hK=>?_
   rw [if_pos (by rfl)]
   refine wp_store_mid _ _ _ rfl _ _ (List.toArray [.bool H.s,(.slice Az3 nz3 cz3),(.slice Bz3 mz3 dz3)]) rfl rfl (aX.out.there_ 8 rfl rfl) (size_rat) (all_oneCell_toArray (cs:=[.bool H.s,(.slice Az3 nz3 cz3),(.slice Bz3 mz3 dz3)]) (List.all_eq_true.mp rfl)) ?_
   simp only [Act.put]
   have cI:=Hd (aX.out.setKit 8 [.bool H.s,(.slice Az3 nz3 cz3),(.slice Bz3 mz3 dz3)] rfl rfl)
   clear aX
   refine hK.out _ _ (aI _ _ _ _ _ _ _ _ _ cI.out) (fun a0=>?_)
   clear hK K
   try simp only [pm,s0,sS]
   refine wpAnyH_done (by kernel_rfl) ?_ _
   refine NoPanic.normal ?_
   go_wp2_with fail
   go_meet
   refine ⟨_,Az3,nz3,cz3,Bz3,mz3,dz3,rfl,?_⟩
   exact ((cI.out.drop 2).drop 1)
  exact AllReadyH.nil
 obtain ⟨cU,Az3,nz3,cz3,Bz3,mz3,dz3,rfl,hst⟩:=hcut
 have aF:=Hd hst
 clear hst aP
 have eN:=aF.out.ne 0 8 rfl rfl (by decide)
 have eO:=aF.out.ne 8 0 rfl rfl (by decide)
 have eP:=aF.out.ne 1 8 rfl rfl (by decide)
 have eQ:=aF.out.ne 8 1 rfl rfl (by decide)
 have gM:=aF.out.ne 2 8 rfl rfl (by decide)
 have gN:=aF.out.ne 8 2 rfl rfl (by decide)
 have gO:=aF.out.ne 3 8 rfl rfl (by decide)
 have gP:=aF.out.ne 8 3 rfl rfl (by decide)
 have gQ:=aF.out.ne 4 8 rfl rfl (by decide)
 have gR:=aF.out.ne 8 4 rfl rfl (by decide)
 have gS:=aF.out.ne 5 8 rfl rfl (by decide)
 have gT:=aF.out.ne 8 5 rfl rfl (by decide)
 have dC:=aF.out.ne 6 8 rfl rfl (by decide)
 have dD:=aF.out.ne 8 6 rfl rfl (by decide)
 have eR:=aF.out.ne 7 8 rfl rfl (by decide)
 have eS:=aF.out.ne 8 7 rfl rfl (by decide)
 obtain ⟨we,hwe⟩ : ∃ u,wc = u:=⟨_,rfl⟩
 rw [hwe] at aF ⊢
 clear hwe
 obtain ⟨dE,dF,dG⟩:=aF.out.c3 4 rfl
 obtain ⟨dH,dI,dJ⟩:=aF.out.c3 5 rfl
 obtain ⟨cP,cQ,cR⟩:=aF.out.c3 6 rfl
 obtain ⟨cV,cW,cX⟩:=aF.out.c3 8 rfl
 go_upto_region 5 with fail
 clear dE dF dG dH dI dJ cP cQ cR cV cW cX
 go_cut [12] (fun ptr wx=>∃ blk Ae3 ne3 ce3 Be3 me3 de3,ptr = .pointer (some ⟨blk,0,none⟩) ∧ St w wx [(w.heap.size + 1 + 1 + 1,[.bool false,.slice none 0 0,.slice none 0 0]),(w.heap.size + 1 + 1,[.int .i64 0,.int .i64 0,.bool false,.slice none 0 0,.slice none 0 0,.bool false,.slice none 0 0,.slice none 0 0,.bool false,.slice none 0 0,.slice none 0 0]),(w.heap.size + 1,[.int .i64 C,.int .i64 E,.bool V.s,(.slice Av nv cv),(.slice Bv mv dv),.bool U.s,u0,u1,.bool T.s,t0,t1]),(w.heap.size,[.int .i64 A,.int .i64 B,.bool P.s,(.slice Ap np cp),(.slice Bp mp dp),.bool Q.s,q0,q1,.bool R.s,r0,r1]),(cS,[.bool P.s,(.slice Ap np cp),(.slice Bp mp dp)]),(cT,[.bool V.s,(.slice Av nv cv),(.slice Bv mv dv)]),(w1.heap.size,[.bool S.s,(.slice A0 n0 c0),(.slice B0 m0 d0)]),(gC,[.int .i64 A,.int .i64 B,.bool S.s,(.slice A0 n0 c0),(.slice B0 m0 d0),.bool X.s,(.slice Ax4 nx4 cx4),(.slice Bx4 mx4 dx4),.bool Y.s,(.slice Ay4 ny4 cy4),(.slice By4 my4 dy4)]),(cU,[.bool H.s,(.slice Az3 nz3 cz3),(.slice Bz3 mz3 dz3)]),(blk,[.bool G.s,(.slice Ae3 ne3 ce3),(.slice Be3 me3 de3)])] [[((.slice Ae3 ne3 ce3),ints G.xs),((.slice Be3 me3 de3),ints G.ys)],[((.slice Az3 nz3 cz3),ints H.xs),((.slice Bz3 mz3 dz3),ints H.ys)],[((.slice Ay4 ny4 cy4),ints Y.xs),((.slice By4 my4 dy4),ints Y.ys)],[((.slice Ax4 nx4 cx4),ints X.xs),((.slice Bx4 mx4 dx4),ints X.ys)],[((.slice A0 n0 c0),ints S.xs),((.slice B0 m0 d0),ints S.ys)]])
 case first=>
  have aD : ∀ (w' : World) (x0_ x1_ x2_ x3_ x4_ : List Value) (bs' : List (Nat × List Value)) (cs' : List Chunk),St w w' ((w.heap.size + 1 + 1 + 1,x0_) :: (w.heap.size + 1 + 1,x1_) :: (w.heap.size + 1,x2_) :: (w.heap.size,x3_) :: (cS,[.bool P.s,(.slice Ap np cp),(.slice Bp mp dp)]) :: (cT,[.bool V.s,(.slice Av nv cv),(.slice Bv mv dv)]) :: (w1.heap.size,[.bool S.s,(.slice A0 n0 c0),(.slice B0 m0 d0)]) :: (gC,x4_) :: (cU,[.bool H.s,(.slice Az3 nz3 cz3),(.slice Bz3 mz3 dz3)]) :: bs') cs' → w'.cell? ⟨cS,0,none⟩ = some (.bool P.s) ∧ w'.cell? ⟨cS,1,none⟩ = some ((.slice Ap np cp)) ∧ w'.cell? ⟨cS,2,none⟩ = some ((.slice Bp mp dp)) ∧ w'.cell? ⟨cT,0,none⟩ = some (.bool V.s) ∧ w'.cell? ⟨cT,1,none⟩ = some ((.slice Av nv cv)) ∧ w'.cell? ⟨cT,2,none⟩ = some ((.slice Bv mv dv)) ∧ w'.cell? ⟨w1.heap.size,0,none⟩ = some (.bool S.s) ∧ w'.cell? ⟨w1.heap.size,1,none⟩ = some ((.slice A0 n0 c0)) ∧ w'.cell? ⟨w1.heap.size,2,none⟩ = some ((.slice B0 m0 d0)) ∧ w'.cell? ⟨cU,0,none⟩ = some (.bool H.s) ∧ w'.cell? ⟨cU,1,none⟩ = some ((.slice Az3 nz3 cz3)) ∧ w'.cell? ⟨cU,2,none⟩ = some ((.slice Bz3 mz3 dz3)):=fun w' x0_ x1_ x2_ x3_ x4_ bs' cs' h=>(h.d3 4 rfl (h.d3 5 rfl (h.d3 6 rfl (h.c3 8 rfl))))
  refine wp_region_noPanic ?_
  refine wp_region_held_drew (S:=(fun w' =>w'.cell? ⟨cS,0,none⟩ = some (.bool P.s) ∧ w'.cell? ⟨cS,1,none⟩ = some ((.slice Ap np cp)) ∧ w'.cell? ⟨cS,2,none⟩ = some ((.slice Bp mp dp)) ∧ w'.cell? ⟨cT,0,none⟩ = some (.bool V.s) ∧ w'.cell? ⟨cT,1,none⟩ = some ((.slice Av nv cv)) ∧ w'.cell? ⟨cT,2,none⟩ = some ((.slice Bv mv dv)) ∧ w'.cell? ⟨w1.heap.size,0,none⟩ = some (.bool S.s) ∧ w'.cell? ⟨w1.heap.size,1,none⟩ = some ((.slice A0 n0 c0)) ∧ w'.cell? ⟨w1.heap.size,2,none⟩ = some ((.slice B0 m0 d0)) ∧ w'.cell? ⟨cU,0,none⟩ = some (.bool H.s) ∧ w'.cell? ⟨cU,1,none⟩ = some ((.slice Az3 nz3 cz3)) ∧ w'.cell? ⟨cU,2,none⟩ = some ((.slice Bz3 mz3 dz3)))) (by kernel_rfl) ?_ (fun hI=>?_)
  ·exact aD _ _ _ _ _ _ _ _ aF.out.drew
  refine tI 0 rfl ?_ ?_ ?_
  rotate_left
  ·intro w9 aH; (try dsimp only at aH); go_simp; try with_reducible rfl
  try simp only [pm,s0,sS]
  refine tI 1 rfl ?_ ?_ ?_
  rotate_left
  ·intro w9 aH; (try dsimp only at aH); go_simp; try with_reducible rfl
  try simp only [pm,s0,sS]
  refine tI 3 rfl ?_ ?_ ?_
  rotate_left
  ·intro w9 aH; (try dsimp only at aH); go_simp; try with_reducible rfl
  try simp only [pm,s0,sS]
  refine tI 5 rfl ?_ ?_ ?_
  rotate_left
  ·intro w9 aH; (try dsimp only at aH); go_simp; try with_reducible rfl
  try simp only [pm,s0,sS]
  refine wpAnyH_ready (rs:=[2,7]) (by kernel_rfl) (by simp) ?_
  refine ac rfl (fun K hK=>?_) ?_
  ·go_simp
   go_at_call_of 90 (Value.agg #[Value.bool P.s,(Value.slice Ap np cp),(Value.slice Bp mp dp)])
   go_at_call_of 90 (Value.agg #[Value.bool V.s,(Value.slice Av nv cv),(Value.slice Bv mv dv)])
   refine (times_f P V (.slice Ap np cp) (.slice Bp mp dp) (.slice Av nv cv) (.slice Bv mv dv) _ GP.out GV.out (aF.out.drew.lkA HL.out).p (aF.out.drew.lkA HM.out).p).mono ?_
   rintro e wf1 ⟨ve1,ue1,rfl,ho,hb⟩
   obtain ⟨Ae1,ne1,ce1,rfl⟩:=(ho.at_ 0 rfl).shape3
   obtain ⟨Be1,me1,de1,rfl⟩:=(ho.at_ 1 rfl).shape3
   rw [HW1.out] at ho ⊢
   have aU:=Hd (aF.out.drew.rows ho hb)
   clear aF ho hb
   refine hK.out _ _ (aD _ _ _ _ _ _ _ _ aU.out) (fun iC=>?_)
   clear hK K
   try simp only [pm,s0,sS]
   refine wpAnyH_ready (rs:=[4,7]) (by kernel_rfl) (by simp) ?_
   refine ac rfl (fun K hK=>?_) ?_
   ·go_simp
    go_at_call 91
    refine (dividedBy_f W1 S (.slice Ae1 ne1 ce1) (.slice Be1 me1 de1) (.slice A0 n0 c0) (.slice B0 m0 d0) _ (HW1.out ▸ good_mul _ _) (HS.out ▸ good_add P V) (aU.out.fr 0 0 rfl rfl rfl) (aU.out.fr 4 0 rfl rfl rfl)).mono ?_
    rintro e wf2 ⟨ve2,ue2,rfl,ho,hb⟩
    obtain ⟨Ae2,ne2,ce2,rfl⟩:=(ho.at_ 0 rfl).shape3
    obtain ⟨Be2,me2,de2,rfl⟩:=(ho.at_ 1 rfl).shape3
    rw [HW2.out] at ho ⊢
    have aM:=Hd (aU.out.rows ho hb)
    clear aU ho hb
    refine hK.out _ _ (aD _ _ _ _ _ _ _ _ aM.out) (fun cM=>?_)
    clear hK K
    try simp only [pm,s0,sS]
    refine wpAnyH_ready (rs:=[6,7]) (by kernel_rfl) (by simp) ?_
    refine ac rfl (fun K hK=>?_) ?_
    ·go_simp
     go_at_call_of 90 (Value.agg #[Value.bool W2.s,(Value.slice Ae2 ne2 ce2),(Value.slice Be2 me2 de2)])
     refine (times_f W2 H (.slice Ae2 ne2 ce2) (.slice Be2 me2 de2) (.slice Az3 nz3 cz3) (.slice Bz3 mz3 dz3) _ (HW2.out ▸ good_div _ _) (HH.out ▸ good_add _ _) (aM.out.fr 0 0 rfl rfl rfl) (aM.out.fr 2 0 rfl rfl rfl)).mono ?_
     rintro e wf3 ⟨ve3,ue3,rfl,ho,hb⟩
     obtain ⟨Ae3,ne3,ce3,rfl⟩:=(ho.at_ 0 rfl).shape3
     obtain ⟨Be3,me3,de3,rfl⟩:=(ho.at_ 1 rfl).shape3
     rw [HG.out] at ho ⊢
     have aK:=Hd (aM.out.rows ho hb)
     clear aM ho hb
     refine hK.out _ _ (aD _ _ _ _ _ _ _ _ aK.out) (fun dK=>?_)
     clear hK K
     try simp only [pm,s0,sS]
     refine wpAnyH_ready (rs:=[7]) (by kernel_rfl) (by simp) ?_
     refine a1 rfl fun K hK=>?_
     go_simp
     have aN:=Hd (aK.out.allocE [.bool false,.slice none 0 0,.slice none 0 0] 35)
     clear aK
     refine hK.out _ _ (aD _ _ _ _ _ _ _ _ aN.out) (fun dL=>?_)
     clear hK K
     try simp only [pm,s0,sS]
     refine wpAnyH_ready (rs:=[8]) (by kernel_rfl) (by simp) ?_
     refine a1 rfl fun K hK=>?_
     rw [if_pos (by rfl)]
     refine wp_store_mid _ _ _ rfl _ _ (List.toArray [.bool G.s,(.slice Ae3 ne3 ce3),(.slice Be3 me3 de3)]) rfl rfl (aN.out.there_ 9 rfl rfl) (size_rat) (all_oneCell_toArray (cs:=[.bool G.s,(.slice Ae3 ne3 ce3),(.slice Be3 me3 de3)]) (List.all_eq_true.mp rfl)) ?_
     simp only [Act.put]
     have aZ:=Hd (aN.out.setKit 9 [.bool G.s,(.slice Ae3 ne3 ce3),(.slice Be3 me3 de3)] rfl rfl)
     clear aN
     refine hK.out _ _ (aD _ _ _ _ _ _ _ _ aZ.out) (fun cH=>?_)
     clear hK K
     try simp only [pm,s0,sS]
     refine wpAnyH_done (by kernel_rfl) ?_ _
     refine NoPanic.normal ?_
     go_wp2_with fail
     go_meet
     refine ⟨_,Ae3,ne3,ce3,Be3,me3,de3,rfl,?_⟩
     exact ((aZ.out.drop 2).drop 1)
    refine ac rfl (fun K hK=>?_) ?_
    ·go_simp
     have aK:=Hd (aM.out.allocE [.bool false,.slice none 0 0,.slice none 0 0] 35)
     clear aM
     refine hK.out _ _ (aD _ _ _ _ _ _ _ _ aK.out) (fun dL=>?_)
     clear hK K
     try simp only [pm,s0,sS]
     refine wpAnyH_ready (rs:=[6]) (by kernel_rfl) (by simp) ?_
     refine a1 rfl fun K hK=>?_
     go_simp
     go_at_call_of 90 (Value.agg #[Value.bool W2.s,(Value.slice Ae2 ne2 ce2),(Value.slice Be2 me2 de2)])
     refine (times_f W2 H (.slice Ae2 ne2 ce2) (.slice Be2 me2 de2) (.slice Az3 nz3 cz3) (.slice Bz3 mz3 dz3) _ (HW2.out ▸ good_div _ _) (HH.out ▸ good_add _ _) (aK.out.fr 0 0 rfl rfl rfl) (aK.out.fr 2 0 rfl rfl rfl)).mono ?_
     rintro e wf3 ⟨ve3,ue3,rfl,ho,hb⟩
     obtain ⟨Ae3,ne3,ce3,rfl⟩:=(ho.at_ 0 rfl).shape3
     obtain ⟨Be3,me3,de3,rfl⟩:=(ho.at_ 1 rfl).shape3
     rw [HG.out] at ho ⊢
     have aN:=Hd (aK.out.rows ho hb)
     clear aK ho hb
     refine hK.out _ _ (aD _ _ _ _ _ _ _ _ aN.out) (fun dK=>?_)
     clear hK K
     try simp only [pm,s0,sS]
     refine wpAnyH_ready (rs:=[8]) (by kernel_rfl) (by simp) ?_
     refine a1 rfl fun K hK=>?_
     rw [if_pos (by rfl)]
     refine wp_store_mid _ _ _ rfl _ _ (List.toArray [.bool G.s,(.slice Ae3 ne3 ce3),(.slice Be3 me3 de3)]) rfl rfl (aN.out.there_ 9 rfl rfl) (size_rat) (all_oneCell_toArray (cs:=[.bool G.s,(.slice Ae3 ne3 ce3),(.slice Be3 me3 de3)]) (List.all_eq_true.mp rfl)) ?_
     simp only [Act.put]
     have aZ:=Hd (aN.out.setKit 9 [.bool G.s,(.slice Ae3 ne3 ce3),(.slice Be3 me3 de3)] rfl rfl)
     clear aN
     refine hK.out _ _ (aD _ _ _ _ _ _ _ _ aZ.out) (fun cH=>?_)
     clear hK K
     try simp only [pm,s0,sS]
     refine wpAnyH_done (by kernel_rfl) ?_ _
     refine NoPanic.normal ?_
     go_wp2_with fail
     go_meet
     refine ⟨_,Ae3,ne3,ce3,Be3,me3,de3,rfl,?_⟩
     exact ((aZ.out.drop 2).drop 1)
    exact AllReadyH.nil
   refine ac rfl (fun K hK=>?_) ?_
   ·go_simp
    have aM:=Hd (aU.out.allocE [.bool false,.slice none 0 0,.slice none 0 0] 35)
    clear aU
    refine hK.out _ _ (aD _ _ _ _ _ _ _ _ aM.out) (fun dL=>?_)
    clear hK K
    try simp only [pm,s0,sS]
    refine wpAnyH_ready (rs:=[4]) (by kernel_rfl) (by simp) ?_
    refine a1 rfl fun K hK=>?_
    go_simp
    go_at_call 91
    refine (dividedBy_f W1 S (.slice Ae1 ne1 ce1) (.slice Be1 me1 de1) (.slice A0 n0 c0) (.slice B0 m0 d0) _ (HW1.out ▸ good_mul _ _) (HS.out ▸ good_add P V) (aM.out.fr 0 0 rfl rfl rfl) (aM.out.fr 4 0 rfl rfl rfl)).mono ?_
    rintro e wf2 ⟨ve2,ue2,rfl,ho,hb⟩
    obtain ⟨Ae2,ne2,ce2,rfl⟩:=(ho.at_ 0 rfl).shape3
    obtain ⟨Be2,me2,de2,rfl⟩:=(ho.at_ 1 rfl).shape3
    rw [HW2.out] at ho ⊢
    have aK:=Hd (aM.out.rows ho hb)
    clear aM ho hb
    refine hK.out _ _ (aD _ _ _ _ _ _ _ _ aK.out) (fun cM=>?_)
    clear hK K
    try simp only [pm,s0,sS]
    refine wpAnyH_ready (rs:=[6]) (by kernel_rfl) (by simp) ?_
    refine a1 rfl fun K hK=>?_
    go_simp
    go_at_call_of 90 (Value.agg #[Value.bool W2.s,(Value.slice Ae2 ne2 ce2),(Value.slice Be2 me2 de2)])
    refine (times_f W2 H (.slice Ae2 ne2 ce2) (.slice Be2 me2 de2) (.slice Az3 nz3 cz3) (.slice Bz3 mz3 dz3) _ (HW2.out ▸ good_div _ _) (HH.out ▸ good_add _ _) (aK.out.fr 0 0 rfl rfl rfl) (aK.out.fr 2 0 rfl rfl rfl)).mono ?_
    rintro e wf3 ⟨ve3,ue3,rfl,ho,hb⟩
    obtain ⟨Ae3,ne3,ce3,rfl⟩:=(ho.at_ 0 rfl).shape3
    obtain ⟨Be3,me3,de3,rfl⟩:=(ho.at_ 1 rfl).shape3
    rw [HG.out] at ho ⊢
    have aN:=Hd (aK.out.rows ho hb)
    clear aK ho hb
    refine hK.out _ _ (aD _ _ _ _ _ _ _ _ aN.out) (fun dK=>?_)
    clear hK K
    try simp only [pm,s0,sS]
    refine wpAnyH_ready (rs:=[8]) (by kernel_rfl) (by simp) ?_
    refine a1 rfl fun K hK=>?_
    rw [if_pos (by rfl)]
    refine wp_store_mid _ _ _ rfl _ _ (List.toArray [.bool G.s,(.slice Ae3 ne3 ce3),(.slice Be3 me3 de3)]) rfl rfl (aN.out.there_ 9 rfl rfl) (size_rat) (all_oneCell_toArray (cs:=[.bool G.s,(.slice Ae3 ne3 ce3),(.slice Be3 me3 de3)]) (List.all_eq_true.mp rfl)) ?_
    simp only [Act.put]
    have aZ:=Hd (aN.out.setKit 9 [.bool G.s,(.slice Ae3 ne3 ce3),(.slice Be3 me3 de3)] rfl rfl)
    clear aN
    refine hK.out _ _ (aD _ _ _ _ _ _ _ _ aZ.out) (fun cH=>?_)
    clear hK K
    try simp only [pm,s0,sS]
    refine wpAnyH_done (by kernel_rfl) ?_ _
    refine NoPanic.normal ?_
    go_wp2_with fail
    go_meet
    refine ⟨_,Ae3,ne3,ce3,Be3,me3,de3,rfl,?_⟩
    exact ((aZ.out.drop 2).drop 1)
   exact AllReadyH.nil
  refine ac rfl (fun K hK=>?_) ?_
  ·go_simp
   have aU:=Hd (aF.out.drew.allocE [.bool false,.slice none 0 0,.slice none 0 0] 35)
   clear aF
   refine hK.out _ _ (aD _ _ _ _ _ _ _ _ aU.out) (fun dL=>?_)
   clear hK K
   try simp only [pm,s0,sS]
   refine wpAnyH_ready (rs:=[2]) (by kernel_rfl) (by simp) ?_
   refine a1 rfl fun K hK=>?_
   go_simp
   go_at_call_of 90 (Value.agg #[Value.bool P.s,(Value.slice Ap np cp),(Value.slice Bp mp dp)])
   go_at_call_of 90 (Value.agg #[Value.bool V.s,(Value.slice Av nv cv),(Value.slice Bv mv dv)])
   refine (times_f P V (.slice Ap np cp) (.slice Bp mp dp) (.slice Av nv cv) (.slice Bv mv dv) _ GP.out GV.out (aU.out.lkA HL.out).p (aU.out.lkA HM.out).p).mono ?_
   rintro e wf1 ⟨ve1,ue1,rfl,ho,hb⟩
   obtain ⟨Ae1,ne1,ce1,rfl⟩:=(ho.at_ 0 rfl).shape3
   obtain ⟨Be1,me1,de1,rfl⟩:=(ho.at_ 1 rfl).shape3
   rw [HW1.out] at ho ⊢
   have aM:=Hd (aU.out.rows ho hb)
   clear aU ho hb
   refine hK.out _ _ (aD _ _ _ _ _ _ _ _ aM.out) (fun iC=>?_)
   clear hK K
   try simp only [pm,s0,sS]
   refine wpAnyH_ready (rs:=[4]) (by kernel_rfl) (by simp) ?_
   refine a1 rfl fun K hK=>?_
   go_simp
   go_at_call 91
   refine (dividedBy_f W1 S (.slice Ae1 ne1 ce1) (.slice Be1 me1 de1) (.slice A0 n0 c0) (.slice B0 m0 d0) _ (HW1.out ▸ good_mul _ _) (HS.out ▸ good_add P V) (aM.out.fr 0 0 rfl rfl rfl) (aM.out.fr 4 0 rfl rfl rfl)).mono ?_
   rintro e wf2 ⟨ve2,ue2,rfl,ho,hb⟩
   obtain ⟨Ae2,ne2,ce2,rfl⟩:=(ho.at_ 0 rfl).shape3
   obtain ⟨Be2,me2,de2,rfl⟩:=(ho.at_ 1 rfl).shape3
   rw [HW2.out] at ho ⊢
   have aK:=Hd (aM.out.rows ho hb)
   clear aM ho hb
   refine hK.out _ _ (aD _ _ _ _ _ _ _ _ aK.out) (fun cM=>?_)
   clear hK K
   try simp only [pm,s0,sS]
   refine wpAnyH_ready (rs:=[6]) (by kernel_rfl) (by simp) ?_
   refine a1 rfl fun K hK=>?_
   go_simp
   go_at_call_of 90 (Value.agg #[Value.bool W2.s,(Value.slice Ae2 ne2 ce2),(Value.slice Be2 me2 de2)])
   refine (times_f W2 H (.slice Ae2 ne2 ce2) (.slice Be2 me2 de2) (.slice Az3 nz3 cz3) (.slice Bz3 mz3 dz3) _ (HW2.out ▸ good_div _ _) (HH.out ▸ good_add _ _) (aK.out.fr 0 0 rfl rfl rfl) (aK.out.fr 2 0 rfl rfl rfl)).mono ?_
   rintro e wf3 ⟨ve3,ue3,rfl,ho,hb⟩
   obtain ⟨Ae3,ne3,ce3,rfl⟩:=(ho.at_ 0 rfl).shape3
   obtain ⟨Be3,me3,de3,rfl⟩:=(ho.at_ 1 rfl).shape3
   rw [HG.out] at ho ⊢
   have aN:=Hd (aK.out.rows ho hb)
   clear aK ho hb
   refine hK.out _ _ (aD _ _ _ _ _ _ _ _ aN.out) (fun dK=>?_)
   clear hK K
   try simp only [pm,s0,sS]
   refine wpAnyH_ready (rs:=[8]) (by kernel_rfl) (by simp) ?_
   refine a1 rfl fun K hK=>?_
   rw [if_pos (by rfl)]
   refine wp_store_mid _ _ _ rfl _ _ (List.toArray [.bool G.s,(.slice Ae3 ne3 ce3),(.slice Be3 me3 de3)]) rfl rfl (aN.out.there_ 9 rfl rfl) (size_rat) (all_oneCell_toArray (cs:=[.bool G.s,(.slice Ae3 ne3 ce3),(.slice Be3 me3 de3)]) (List.all_eq_true.mp rfl)) ?_
   simp only [Act.put]
   have aZ:=Hd (aN.out.setKit 9 [.bool G.s,(.slice Ae3 ne3 ce3),(.slice Be3 me3 de3)] rfl rfl)
   clear aN
   refine hK.out _ _ (aD _ _ _ _ _ _ _ _ aZ.out) (fun cH=>?_)
   clear hK K
   try simp only [pm,s0,sS]
   refine wpAnyH_done (by kernel_rfl) ?_ _
   refine NoPanic.normal ?_
   go_wp2_with fail
   go_meet
   refine ⟨_,Ae3,ne3,ce3,Be3,me3,de3,rfl,?_⟩
   exact ((aZ.out.drop 2).drop 1)
  exact AllReadyH.nil
 obtain ⟨iT,Ae3,ne3,ce3,Be3,me3,de3,rfl,hst⟩:=hcut
 have aL:=Hd hst
 clear hst aF
 have iL:=aL.out.ne 0 9 rfl rfl (by decide)
 have iM:=aL.out.ne 9 0 rfl rfl (by decide)
 have iN:=aL.out.ne 1 9 rfl rfl (by decide)
 have iO:=aL.out.ne 9 1 rfl rfl (by decide)
 have gU:=aL.out.ne 2 9 rfl rfl (by decide)
 have gV:=aL.out.ne 9 2 rfl rfl (by decide)
 have gW:=aL.out.ne 3 9 rfl rfl (by decide)
 have gX:=aL.out.ne 9 3 rfl rfl (by decide)
 have gY:=aL.out.ne 4 9 rfl rfl (by decide)
 have gZ:=aL.out.ne 9 4 rfl rfl (by decide)
 have g0:=aL.out.ne 5 9 rfl rfl (by decide)
 have g1:=aL.out.ne 9 5 rfl rfl (by decide)
 have dM:=aL.out.ne 6 9 rfl rfl (by decide)
 have dN:=aL.out.ne 9 6 rfl rfl (by decide)
 have iP:=aL.out.ne 7 9 rfl rfl (by decide)
 have iQ:=aL.out.ne 9 7 rfl rfl (by decide)
 have eT:=aL.out.ne 8 9 rfl rfl (by decide)
 have eU:=aL.out.ne 9 8 rfl rfl (by decide)
 obtain ⟨wg,hwg⟩ : ∃ u,wc = u:=⟨_,rfl⟩
 rw [hwg] at aL ⊢
 clear hwg
 clear eV eW e8 e9 cZ eN eZ e3 fA fB c2 eP e4 e5 g2 g5 g6 dP gD gM gU e6 e7 g4 g7 g8 dR gF gO gW fC fD g9 hA hB dT gH gQ gY fE fF hC hD hE dV gJ gS g0 c1 c4 dQ dS dU dW c8 dC dM gE gG gI gK c9 eR eO eQ gN gP gR gT dD eS eT gV gX gZ g1 dN eU
 have hJ:=Hd (aL.out.dropBox 2)
 clear aL
 have hN:=Hd (hJ.out.dropBox 2)
 clear hJ
 have hO:=Hd (hN.out.dropBox 2)
 clear hN
 have hP:=Hd (hO.out.dropBox 2)
 clear hO
 have hQ:=Hd (hP.out.dropBox 2)
 clear hP
 have hR:=Hd (hQ.out.dropBox 3)
 clear hQ
 have cJ:=Hd (show St w wg [(w.heap.size + 1 + 1 + 1,[.bool false,.slice none 0 0,.slice none 0 0]),(w.heap.size + 1 + 1,[.int .i64 0,.int .i64 0,.bool false,.slice none 0 0,.slice none 0 0,.bool false,.slice none 0 0,.slice none 0 0,.bool false,.slice none 0 0,.slice none 0 0]),(gC,[.int .i64 A,.int .i64 B,.bool S.s,(.slice A0 n0 c0),(.slice B0 m0 d0),.bool X.s,(.slice Ax4 nx4 cx4),(.slice Bx4 mx4 dx4),.bool Y.s,(.slice Ay4 ny4 cy4),(.slice By4 my4 dy4)]),(iT,[.bool G.s,(.slice Ae3 ne3 ce3),(.slice Be3 me3 de3)])] [[((.slice Ae3 ne3 ce3),ints G.xs),((.slice Be3 me3 de3),ints G.ys)],[((.slice Az3 nz3 cz3),ints H.xs),((.slice Bz3 mz3 dz3),ints H.ys)],[((.slice Ay4 ny4 cy4),ints Y.xs),((.slice By4 my4 dy4),ints Y.ys)],[((.slice Ax4 nx4 cx4),ints X.xs),((.slice Bx4 mx4 dx4),ints X.ys)],[((.slice A0 n0 c0),ints S.xs),((.slice B0 m0 d0),ints S.ys)]] from hR.out)
 clear hR
 obtain ⟨bO,bP,bQ,bR,bS,bT,bU,bV,bW,bX,a6⟩:=cJ.out.c11 2 rfl
 go_wp2_with fail
 refine (isValidLink_i A B S X Y (.slice A0 n0 c0) (.slice B0 m0 d0) (.slice Ax4 nx4 cx4) (.slice Bx4 mx4 dx4) (.slice Ay4 ny4 cy4) (.slice By4 my4 dy4) _ ⟨(cJ.out.fr 4 0 rfl rfl rfl),(cJ.out.fr 3 0 rfl rfl rfl),(cJ.out.fr 2 0 rfl rfl rfl)⟩).mono ?_
 rintro e wh ⟨rfl,hb⟩
 have a7:=Hd (cJ.out.call hb)
 clear cJ
 clear hb
 by_cases h1 : okK A B S X Y = true
 ·rw [h1]
  have H1:=Hd h1
  clear h1
  clear bO bP bQ bR bS bT bU bV bW bX a6
  obtain ⟨bY,bZ,b0⟩:=a7.out.c3 3 rfl
  go_wp2_with fail
  refine (isValid_f G (.slice Ae3 ne3 ce3) (.slice Be3 me3 de3) _ (a7.out.fr 0 0 rfl rfl rfl)).mono ?_
  rintro e wi ⟨rfl,hb⟩
  have aJ:=Hd (a7.out.call hb)
  clear a7
  clear hb
  by_cases h2 : G.ok = true
  ·have HY:=Hd (show ok = true by rw [← HOK.out,H1.out,h2]; rfl)
   rw [h2]
   clear h2
   clear bY bZ b0
   obtain ⟨hT,hU,hV,hW,hZ,h0,h3,h4,h5,h6,hF⟩:=aJ.out.c11 2 rfl
   obtain ⟨h7,h8,h9⟩:=aJ.out.c3 3 rfl
   obtain ⟨b1,a8,b2,a9,b3,bA,b4,bB,b5,bC,b6,bD,b7,bE,b8,bF,b9,bG,cA,bH,bI,a3⟩:=aJ.out.g11 1 rfl
   obtain ⟨cB,bJ,cC,bK,cD,bL⟩:=aJ.out.g3 0 rfl
   go_wp2
   go_region
   all_goals go_wp2_with fail
   all_goals have hr0:=aJ.out.cell 1 0 rfl rfl
   all_goals have hr1:=aJ.out.cell 1 1 rfl rfl
   all_goals have hr2:=aJ.out.cell 1 2 rfl rfl
   all_goals have hr3:=aJ.out.cell 1 3 rfl rfl
   all_goals have hr4:=aJ.out.cell 1 4 rfl rfl
   all_goals have hr5:=aJ.out.cell 1 5 rfl rfl
   all_goals have hr6:=aJ.out.cell 1 6 rfl rfl
   all_goals have hr7:=aJ.out.cell 1 7 rfl rfl
   all_goals have hr8:=aJ.out.cell 1 8 rfl rfl
   all_goals have hr9:=aJ.out.cell 1 9 rfl rfl
   all_goals have hr10:=aJ.out.cell 1 10 rfl rfl
   all_goals have hs0:=aJ.out.cell 0 0 rfl rfl
   all_goals have hs1:=aJ.out.cell 0 1 rfl rfl
   all_goals have hs2:=aJ.out.cell 0 2 rfl rfl
   all_goals refine bodyPost_ret (v:=.tuple #[.agg #[.int .i64 A,.int .i64 B,.bool S.s,(.slice A0 n0 c0),(.slice B0 m0 d0),.bool X.s,(.slice Ax4 nx4 cx4),(.slice Bx4 mx4 dx4),.bool Y.s,(.slice Ay4 ny4 cy4),(.slice By4 my4 dy4)],.agg #[.bool G.s,(.slice Ae3 ne3 ce3),(.slice Be3 me3 de3)],.bool true]) (by simp [results,Tryz.results64,go_sem,hr0,hr1,hr2,hr3,hr4,hr5,hr6,hr7,hr8,hr9,hr10,hs0,hs1,hs2]) rfl ?_
   all_goals have SR0:=((aJ.out.setAll 1 [.int .i64 A,.int .i64 B,.bool S.s,(.slice A0 n0 c0),(.slice B0 m0 d0),.bool X.s,(.slice Ax4 nx4 cx4),(.slice Bx4 mx4 dx4),.bool Y.s,(.slice Ay4 ny4 cy4),(.slice By4 my4 dy4)] rfl rfl).setAll 0 [.bool G.s,(.slice Ae3 ne3 ce3),(.slice Be3 me3 de3)] rfl rfl)
   all_goals simp only [setCells,Nat.reduceAdd,Nat.zero_add] at SR0
   all_goals have SR:=Hd SR0.drew
   all_goals exact OwnMG.yes HY.out ⟨_,_,_,_,_,_,_,_,rfl,SR.out.pick [4,3,2,0] [[((.slice A0 n0 c0),ints S.xs),((.slice B0 m0 d0),ints S.ys)],[((.slice Ax4 nx4 cx4),ints X.xs),((.slice Bx4 mx4 dx4),ints X.ys)],[((.slice Ay4 ny4 cy4),ints Y.xs),((.slice By4 my4 dy4),ints Y.ys)],[((.slice Ae3 ne3 ce3),ints G.xs),((.slice Be3 me3 de3),ints G.ys)]] (by decide) rfl,SR.out.below⟩
  ·rw [Bool.not_eq_true] at h2
   have HNO:=Hd (show ok = false by rw [← HOK.out,h2,Bool.and_false])
   rw [h2]
   clear h2
   clear bY bZ b0
   obtain ⟨b1,a8,b2,a9,b3,bA,b4,bB,b5,bC,b6,bD,b7,bE,b8,bF,b9,bG,cA,bH,bI,a3⟩:=aJ.out.g11 1 rfl
   obtain ⟨cB,bJ,cC,bK,cD,bL⟩:=aJ.out.g3 0 rfl
   go_wp2
   have SR:=Hd ((aJ.out.setAll 1 [.int .i64 0,.int .i64 0,.bool false,.slice none 0 0,.slice none 0 0,.bool false,.slice none 0 0,.slice none 0 0,.bool false,.slice none 0 0,.slice none 0 0] rfl rfl).setAll 0 [.bool false,.slice none 0 0,.slice none 0 0] rfl rfl)
   obtain ⟨hr0,hr1,hr2,hr3,hr4,hr5,hr6,hr7,hr8,hr9,hr10⟩:=aJ.out.c11 1 rfl
   obtain ⟨hs0,hs1,hs2⟩:=aJ.out.c3 0 rfl
   exact bodyPost_ret (v:=.tuple #[.agg #[.int .i64 0,.int .i64 0,.bool false,.slice none 0 0,.slice none 0 0,.bool false,.slice none 0 0,.slice none 0 0,.bool false,.slice none 0 0,.slice none 0 0],.agg #[.bool false,.slice none 0 0,.slice none 0 0],.bool false]) (by simp [results,Tryz.results64,go_sem,hr0,hr1,hr2,hr3,hr4,hr5,hr6,hr7,hr8,hr9,hr10,hs0,hs1,hs2]) rfl (OwnMG.no HNO.out SR.out)
 ·rw [Bool.not_eq_true] at h1
  have HNO:=Hd (show ok = false by rw [← HOK.out,h1,Bool.false_and])
  rw [h1]
  clear h1
  clear bO bP bQ bR bS bT bU bV bW bX a6
  obtain ⟨b1,a8,b2,a9,b3,bA,b4,bB,b5,bC,b6,bD,b7,bE,b8,bF,b9,bG,cA,bH,bI,a3⟩:=a7.out.g11 1 rfl
  obtain ⟨cB,bJ,cC,bK,cD,bL⟩:=a7.out.g3 0 rfl
  go_wp2
  have SR:=Hd ((a7.out.setAll 1 [.int .i64 0,.int .i64 0,.bool false,.slice none 0 0,.slice none 0 0,.bool false,.slice none 0 0,.slice none 0 0,.bool false,.slice none 0 0,.slice none 0 0] rfl rfl).setAll 0 [.bool false,.slice none 0 0,.slice none 0 0] rfl rfl)
  obtain ⟨hr0,hr1,hr2,hr3,hr4,hr5,hr6,hr7,hr8,hr9,hr10⟩:=a7.out.c11 1 rfl
  obtain ⟨hs0,hs1,hs2⟩:=a7.out.c3 0 rfl
  exact bodyPost_ret (v:=.tuple #[.agg #[.int .i64 0,.int .i64 0,.bool false,.slice none 0 0,.slice none 0 0,.bool false,.slice none 0 0,.slice none 0 0,.bool false,.slice none 0 0,.slice none 0 0],.agg #[.bool false,.slice none 0 0,.slice none 0 0],.bool false]) (by simp [results,Tryz.results64,go_sem,hr0,hr1,hr2,hr3,hr4,hr5,hr6,hr7,hr8,hr9,hr10,hs0,hs1,hs2]) rfl (OwnMG.no HNO.out SR.out)
end Go.Proofs.YtodoiekbjjiocaaGreat
