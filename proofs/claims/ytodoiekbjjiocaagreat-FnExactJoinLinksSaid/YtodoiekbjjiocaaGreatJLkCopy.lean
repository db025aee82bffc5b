/- Links: copies; where a link stands in a list. Conditions: none. -/
import Derived.Test.YtodoiekbjjiocaaGreatJPk
import Derived.Test.YtodoiekbjjiocaaGreatJFrCopy
import Derived.Test.YtodoiekbjjiocaaGreatJSetAid
namespace Go.Proofs.YtodoiekbjjiocaaGreat
open Go.RowKit Nt Fr
set_option linter.unusedVariables false
set_option maxRecDepth 100000
set_option maxHeartbeats 4000000
theorem okK_fr {A B : Int} {P Q R : Fr} (h : okK A B P Q R = true) : P.ok = true ∧ Q.ok = true ∧ R.ok = true:=by
 obtain ⟨_,_,_,h4,h5,h6⟩:=okK_parts h
 exact ⟨sgn_ok h4,h5,h6⟩
theorem linkCopied_f (A B : Int) (P Q R : Fr) (p0 p1 q0 q1 r0 r1 : Value) (w : World) (hok : okK A B P Q R = true) (hL : LkA w P Q R p0 p1 q0 q1 r0 r1) :
 Calls Tryz.prog 63 #[.agg #[.int .i64 A,.int .i64 B,.bool P.s,p0,p1,.bool Q.s,q0,q1,.bool R.s,r0,r1]] w (OwnK A B P Q R w):=by
 have HL:=Hd hL
 have HO:=Hd (okK_fr hok)
 clear hL hok
 have cF:=Hd (St.start2 w [.int .i64 A,.int .i64 B,.bool P.s,p0,p1,.bool Q.s,q0,q1,.bool R.s,r0,r1] 40 [.int .i64 0,.int .i64 0,.bool false,.slice none 0 0,.slice none 0 0,.bool false,.slice none 0 0,.slice none 0 0,.bool false,.slice none 0 0,.slice none 0 0] 40)
 have aW : w.heap.size + 1 ≠ w.heap.size:=by omega
 have aX : w.heap.size ≠ w.heap.size + 1:=by omega
 go_enter Tryz.func63,Tryz.ntmps63
 obtain ⟨a9,bA,bB,bC,bD,bE,bF,bG,bH,bI,aY⟩:=cF.out.c11 1 rfl
 go_wp2
 go_region_held3 (fun w' =>w'.cell? ⟨w.heap.size,0,none⟩ = some (.int .i64 A) ∧ w'.cell? ⟨w.heap.size,1,none⟩ = some (.int .i64 B) ∧ w'.cell? ⟨w.heap.size,2,none⟩ = some (.bool P.s) ∧ w'.cell? ⟨w.heap.size,3,none⟩ = some (p0) ∧ w'.cell? ⟨w.heap.size,4,none⟩ = some (p1) ∧ w'.cell? ⟨w.heap.size,5,none⟩ = some (.bool Q.s) ∧ w'.cell? ⟨w.heap.size,6,none⟩ = some (q0) ∧ w'.cell? ⟨w.heap.size,7,none⟩ = some (q1) ∧ w'.cell? ⟨w.heap.size,8,none⟩ = some (.bool R.s) ∧ w'.cell? ⟨w.heap.size,9,none⟩ = some (r0) ∧ w'.cell? ⟨w.heap.size,10,none⟩ = some (r1)) (go_keep)
  (first
    |(go_at_call_of 89 (Value.agg #[Value.bool P.s,p0,p1])
      refine (copied_f P p0 p1 _ HO.out.1 (cF.out.drew.lkA HL.out).p).mono ?_
      rintro e w1 ⟨v1,u1,rfl,ho,hb⟩
      obtain ⟨A1,n1,c1,rfl⟩:=(ho.at_ 0 rfl).shape3
      obtain ⟨B1,m1,d1,rfl⟩:=(ho.at_ 1 rfl).shape3
      have bJ:=Hd (cF.out.drew.rows ho hb)
      clear cF ho hb
      obtain ⟨bK,bL,bM,bN,bO,bP,bQ,bR,bS,bT⟩:=bJ.out.c10 1 rfl
      have aZ:=bJ.out.cell 1 10 rfl rfl)
    |(go_at_call_of 89 (Value.agg #[Value.bool Q.s,q0,q1])
      refine (copied_f Q q0 q1 _ HO.out.2.1 (bJ.out.lkA HL.out).q).mono ?_
      rintro e w2 ⟨v2,u2,rfl,ho,hb⟩
      obtain ⟨A2,n2,c2,rfl⟩:=(ho.at_ 0 rfl).shape3
      obtain ⟨B2,m2,d2,rfl⟩:=(ho.at_ 1 rfl).shape3
      have bU:=Hd (bJ.out.rows ho hb)
      clear bJ ho hb
      obtain ⟨bV,bW,bX,bY,bZ,b0,b1,b2,b3,b4⟩:=bU.out.c10 1 rfl
      have a6:=bU.out.cell 1 10 rfl rfl)
    |(go_at_call_of 89 (Value.agg #[Value.bool R.s,r0,r1])
      refine (copied_f R r0 r1 _ HO.out.2.2 (bU.out.lkA HL.out).r).mono ?_
      rintro e w3 ⟨v3,u3,rfl,ho,hb⟩
      obtain ⟨A3,n3,c3,rfl⟩:=(ho.at_ 0 rfl).shape3
      obtain ⟨B3,m3,d3,rfl⟩:=(ho.at_ 1 rfl).shape3
      have a7:=Hd (bU.out.rows ho hb)
      clear bU ho hb
      obtain ⟨b5,b6,b7,b8,b9,cA,cB,cC,cD,cE,a8⟩:=a7.out.c11 1 rfl
      obtain ⟨aM,aB,aN,aC,aO,aD,aP,aE,aQ,aF,aR,aG,aS,aH,aT,aI,aU,aJ,aV,aK⟩:=a7.out.g10 0 rfl
      have aL:=a7.out.cell 0 10 rfl rfl
      have aA:=a7.out.froz 0 10 rfl rfl))
 go_wp2
 have SR:=Hd (a7.out.setAll 0 [.int .i64 A,.int .i64 B,.bool P.s,(.slice A1 n1 c1),(.slice B1 m1 d1),.bool Q.s,(.slice A2 n2 c2),(.slice B2 m2 d2),.bool R.s,(.slice A3 n3 c3),(.slice B3 m3 d3)] rfl rfl)
 obtain ⟨hr0,hr1,hr2,hr3,hr4,hr5,hr6,hr7,hr8,hr9,hr10⟩:=a7.out.c11 0 rfl
 exact bodyPost_ret (v:=.agg #[.int .i64 A,.int .i64 B,.bool P.s,(.slice A1 n1 c1),(.slice B1 m1 d1),.bool Q.s,(.slice A2 n2 c2),(.slice B2 m2 d2),.bool R.s,(.slice A3 n3 c3),(.slice B3 m3 d3)]) (by simp [results,Tryz.results63,go_sem,hr0,hr1,hr2,hr3,hr4,hr5,hr6,hr7,hr8,hr9,hr10]) rfl ⟨_,_,_,_,_,_,rfl,SR.out.pick [2,1,0] [[((.slice A1 n1 c1),ints P.xs),((.slice B1 m1 d1),ints P.ys)],[((.slice A2 n2 c2),ints Q.xs),((.slice B2 m2 d2),ints Q.ys)],[((.slice A3 n3 c3),ints R.xs),((.slice B3 m3 d3),ints R.ys)]] (by decide) rfl,SR.out.below⟩
theorem l06Copy_f (A B : Int) (P Q R : Fr) (p0 p1 q0 q1 r0 r1 : Value) (w : World) (hok : okK A B P Q R = true) (hL : LkA w P Q R p0 p1 q0 q1 r0 r1) :
 Calls Tryz.prog 27 #[.agg #[.int .i64 A,.int .i64 B,.bool P.s,p0,p1,.bool Q.s,q0,q1,.bool R.s,r0,r1]] w (OwnK A B P Q R w):=by
 have HL:=Hd hL
 have HO:=Hd (okK_fr hok)
 clear hL hok
 have cF:=Hd (St.start2 w [.int .i64 A,.int .i64 B,.bool P.s,p0,p1,.bool Q.s,q0,q1,.bool R.s,r0,r1] 40 [.int .i64 0,.int .i64 0,.bool false,.slice none 0 0,.slice none 0 0,.bool false,.slice none 0 0,.slice none 0 0,.bool false,.slice none 0 0,.slice none 0 0] 40)
 have aW : w.heap.size + 1 ≠ w.heap.size:=by omega
 have aX : w.heap.size ≠ w.heap.size + 1:=by omega
 go_enter Tryz.func27,Tryz.ntmps27
 obtain ⟨a9,bA,bB,bC,bD,bE,bF,bG,bH,bI,aY⟩:=cF.out.c11 1 rfl
 go_wp2
 go_region_held3 (fun w' =>w'.cell? ⟨w.heap.size,0,none⟩ = some (.int .i64 A) ∧ w'.cell? ⟨w.heap.size,1,none⟩ = some (.int .i64 B) ∧ w'.cell? ⟨w.heap.size,2,none⟩ = some (.bool P.s) ∧ w'.cell? ⟨w.heap.size,3,none⟩ = some (p0) ∧ w'.cell? ⟨w.heap.size,4,none⟩ = some (p1) ∧ w'.cell? ⟨w.heap.size,5,none⟩ = some (.bool Q.s) ∧ w'.cell? ⟨w.heap.size,6,none⟩ = some (q0) ∧ w'.cell? ⟨w.heap.size,7,none⟩ = some (q1) ∧ w'.cell? ⟨w.heap.size,8,none⟩ = some (.bool R.s) ∧ w'.cell? ⟨w.heap.size,9,none⟩ = some (r0) ∧ w'.cell? ⟨w.heap.size,10,none⟩ = some (r1)) (go_keep)
  (first
    |(go_at_call_of 53 (Value.agg #[Value.bool P.s,p0,p1])
      refine (l04Copy_f P p0 p1 _ HO.out.1 (cF.out.drew.lkA HL.out).p).mono ?_
      rintro e w1 ⟨v1,u1,rfl,ho,hb⟩
      obtain ⟨A1,n1,c1,rfl⟩:=(ho.at_ 0 rfl).shape3
      obtain ⟨B1,m1,d1,rfl⟩:=(ho.at_ 1 rfl).shape3
      have bJ:=Hd (cF.out.drew.rows ho hb)
      clear cF ho hb
      obtain ⟨bK,bL,bM,bN,bO,bP,bQ,bR,bS,bT⟩:=bJ.out.c10 1 rfl
      have aZ:=bJ.out.cell 1 10 rfl rfl)
    |(go_at_call_of 53 (Value.agg #[Value.bool Q.s,q0,q1])
      refine (l04Copy_f Q q0 q1 _ HO.out.2.1 (bJ.out.lkA HL.out).q).mono ?_
      rintro e w2 ⟨v2,u2,rfl,ho,hb⟩
      obtain ⟨A2,n2,c2,rfl⟩:=(ho.at_ 0 rfl).shape3
      obtain ⟨B2,m2,d2,rfl⟩:=(ho.at_ 1 rfl).shape3
      have bU:=Hd (bJ.out.rows ho hb)
      clear bJ ho hb
      obtain ⟨bV,bW,bX,bY,bZ,b0,b1,b2,b3,b4⟩:=bU.out.c10 1 rfl
      have a6:=bU.out.cell 1 10 rfl rfl)
    |(go_at_call_of 53 (Value.agg #[Value.bool R.s,r0,r1])
      refine (l04Copy_f R r0 r1 _ HO.out.2.2 (bU.out.lkA HL.out).r).mono ?_
      rintro e w3 ⟨v3,u3,rfl,ho,hb⟩
      obtain ⟨A3,n3,c3,rfl⟩:=(ho.at_ 0 rfl).shape3
      obtain ⟨B3,m3,d3,rfl⟩:=(ho.at_ 1 rfl).shape3
      have a7:=Hd (bU.out.rows ho hb)
      clear bU ho hb
      obtain ⟨b5,b6,b7,b8,b9,cA,cB,cC,cD,cE,a8⟩:=a7.out.c11 1 rfl
      obtain ⟨aM,aB,aN,aC,aO,aD,aP,aE,aQ,aF,aR,aG,aS,aH,aT,aI,aU,aJ,aV,aK⟩:=a7.out.g10 0 rfl
      have aL:=a7.out.cell 0 10 rfl rfl
      have aA:=a7.out.froz 0 10 rfl rfl))
 go_wp2
 have SR:=Hd (a7.out.setAll 0 [.int .i64 A,.int .i64 B,.bool P.s,(.slice A1 n1 c1),(.slice B1 m1 d1),.bool Q.s,(.slice A2 n2 c2),(.slice B2 m2 d2),.bool R.s,(.slice A3 n3 c3),(.slice B3 m3 d3)] rfl rfl)
 obtain ⟨hr0,hr1,hr2,hr3,hr4,hr5,hr6,hr7,hr8,hr9,hr10⟩:=a7.out.c11 0 rfl
 exact bodyPost_ret (v:=.agg #[.int .i64 A,.int .i64 B,.bool P.s,(.slice A1 n1 c1),(.slice B1 m1 d1),.bool Q.s,(.slice A2 n2 c2),(.slice B2 m2 d2),.bool R.s,(.slice A3 n3 c3),(.slice B3 m3 d3)]) (by simp [results,Tryz.results27,go_sem,hr0,hr1,hr2,hr3,hr4,hr5,hr6,hr7,hr8,hr9,hr10]) rfl ⟨_,_,_,_,_,_,rfl,SR.out.pick [2,1,0] [[((.slice A1 n1 c1),ints P.xs),((.slice B1 m1 d1),ints P.ys)],[((.slice A2 n2 c2),ints Q.xs),((.slice B2 m2 d2),ints Q.ys)],[((.slice A3 n3 c3),ints R.xs),((.slice B3 m3 d3),ints R.ys)]] (by decide) rfl,SR.out.below⟩
def PlaceAt (zs : List Lr) (C E : Int) (i : Nat) (f : Bool) : Prop :=
 i ≤ zs.length ∧ (∀ (j : Nat) (z : Lr),j < i → zs[j]? = some z → cmpK z.A z.B C E < 0) ∧ (∀ z : Lr,zs[i]? = some z → 0 ≤ cmpK z.A z.B C E ∧ f = decide (cmpK z.A z.B C E = 0)) ∧ (i = zs.length → f = false)
theorem placeOf_f (L : Option Addr) (n c : Nat) (zs : List Lr) (C E : Int) (V U T : Fr) (v0 v1 u0 u1 t0 t1 : Value) (w : World) (hA : LArg w L n zs) (hn : n ≤ 1048576) :
 Calls Tryz.prog 61 #[.slice L n c,.agg #[.int .i64 C,.int .i64 E,.bool V.s,v0,v1,.bool U.s,u0,u1,.bool T.s,t0,t1]] w fun e w' =>∃ (i : Nat) (f : Bool),e = .returned (.tuple #[.int .i64 i,.bool f]) ∧ PlaceAt zs C E i f ∧ Below w.heap.size w w':=by
 have HA:=Hd hA
 have HL:=Hd hA.row.1
 clear hA
 have hm : ∀ (u : World) (v : Value),(method 250 40 v "loop.example/g00810/impl.compare").run Tryz.prog u = .ok (157,v) u:=fun _ _=>by kernel_rfl
 have aB:=Hd ((St.start w).alloc [.int .i64 C,.int .i64 E,.bool V.s,v0,v1,.bool U.s,u0,u1,.bool T.s,t0,t1] 40)
 go_enter Tryz.func61,Tryz.ntmps61
 go_wp2
 obtain ⟨bx,hbx⟩ : ∃ u,w.heap.size = u:=⟨_,rfl⟩
 obtain ⟨wx,hwx⟩ : ∃ u,w.alloc (.cells #[.int .i64 C,.int .i64 E,.bool V.s,v0,v1,.bool U.s,u0,u1,.bool T.s,t0,t1] 40) = u:=⟨_,rfl⟩
 rw [hbx] at aB ⊢
 have aB:=Hd (show St w wx [(bx,[.int .i64 C,.int .i64 E,.bool V.s,v0,v1,.bool U.s,u0,u1,.bool T.s,t0,t1])] [] from hwx ▸ aB.out)
 rw [hwx]
 have HBX:=Hd hbx
 clear hwx hbx
 go_loopw [11] (fun i wr=>∃ k : Nat,k ≤ n ∧ i = .int .i64 k ∧ (∀ (j : Nat) (z : Lr),j < k → zs[j]? = some z → cmpK z.A z.B C E < 0) ∧ St w wr [(bx,[.int .i64 C,.int .i64 E,.bool V.s,v0,v1,.bool U.s,u0,u1,.bool T.s,t0,t1])] []) (fun i _=>n - (intOf i).toNat)
 case atStart=>exact ⟨0,Nat.zero_le _,rfl,fun j z hj=>by omega,aB.out⟩
 case round=>
  obtain ⟨k,hk,rfl,hlt,hst⟩:=hrel
  have aA:=Hd hst
  have HT:=Hd hlt
  clear hst hlt aB
  by_cases hkn : k < n
  ·obtain ⟨g,o,z,rfl,hg,hz,hr,hc⟩:=(HA.out.below aA.out.below).at_ hkn
   obtain ⟨ZA,ZB,ZP,ZQ,ZR,a0,n0,d0,a1,n1,d1,a2,n2,d2,a3,n3,d3,a4,n4,d4,a5,n5,d5,rfl⟩:=LArg.shapes hr
   have HZ:=Hd hz
   have c0 : wr.cell? ⟨g,o + k * 11,none⟩ = some (.int .i64 ZA):=hc 0 _ rfl
   have c1 : wr.cell? ⟨g,o + k * 11 + 1,none⟩ = some (.int .i64 ZB):=hc 1 _ rfl
   have c2 : wr.cell? ⟨g,o + k * 11 + 2,none⟩ = some (.bool ZP.s):=hc 2 _ rfl
   have c3 : wr.cell? ⟨g,o + k * 11 + 3,none⟩ = some ((.slice a0 n0 d0)):=hc 3 _ rfl
   have c4 : wr.cell? ⟨g,o + k * 11 + 4,none⟩ = some ((.slice a1 n1 d1)):=hc 4 _ rfl
   have c5 : wr.cell? ⟨g,o + k * 11 + 5,none⟩ = some (.bool ZQ.s):=hc 5 _ rfl
   have c6 : wr.cell? ⟨g,o + k * 11 + 6,none⟩ = some ((.slice a2 n2 d2)):=hc 6 _ rfl
   have c7 : wr.cell? ⟨g,o + k * 11 + 7,none⟩ = some ((.slice a3 n3 d3)):=hc 7 _ rfl
   have c8 : wr.cell? ⟨g,o + k * 11 + 8,none⟩ = some (.bool ZR.s):=hc 8 _ rfl
   have c9 : wr.cell? ⟨g,o + k * 11 + 9,none⟩ = some ((.slice a4 n4 d4)):=hc 9 _ rfl
   have c10 : wr.cell? ⟨g,o + k * 11 + 10,none⟩ = some ((.slice a5 n5 d5)):=hc 10 _ rfl
   clear hz hr hc
   obtain ⟨q,hq⟩ : ∃ q,cmpK ZA ZB C E = q:=⟨_,rfl⟩
   have HQ:=Hd hq
   clear hq
   have hbl:=aA.out.lt 0 rfl
   obtain ⟨x0,x1,x2,x3,x4,x5,x6,x7,x8,x9,x10⟩:=aA.out.c11 0 rfl
   have aD:=Hd (aA.out.alloc [.int .i64 ZA,.int .i64 ZB,.bool ZP.s,(.slice a0 n0 d0),(.slice a1 n1 d1),.bool ZQ.s,(.slice a2 n2 d2),(.slice a3 n3 d3),.bool ZR.s,(.slice a4 n4 d4),(.slice a5 n5 d5)] 40)
   clear aA
   go_wp2_with fail
   refine (compareK_f ZA ZB ZP ZQ ZR (.slice a0 n0 d0) (.slice a1 n1 d1) (.slice a2 n2 d2) (.slice a3 n3 d3) (.slice a4 n4 d4) (.slice a5 n5 d5) C E V U T v0 v1 u0 u1 t0 t1 _).mono ?_
   rintro e w2 ⟨rfl,hb⟩
   rw [HQ.out]
   have aC:=Hd ((aD.out.call hb).dropBox 0)
   clear hb aD c0 c1 c2 c3 c4 c5 c6 c7 c8 c9 c10 x0 x1 x2 x3 x4 x5 x6 x7 x8 x9 x10
   by_cases hq0 : 0 ≤ q
   ·have hq1 : ¬ q < 0:=by omega
    have HP:=Hd (show PlaceAt zs C E k (decide (q = 0)) from ⟨by rw [HL.out]; exact hk,HT.out,fun z hz=>by
     obtain rfl:=Option.some.inj (HZ.out.symm.trans hz)
     show 0 ≤ cmpK ZA ZB C E ∧ decide (q = 0) = decide (cmpK ZA ZB C E = 0)
     rw [HQ.out]; exact ⟨hq0,rfl⟩,fun e=>by rw [HL.out] at e; omega⟩)
    by_cases hq2 : q = 0
    ·subst hq2
     go_wp2
     exact bodyPost_ret (v:=.tuple #[.int .i64 k,.bool true]) (by simp [results,Tryz.results61,go_sem]) rfl ⟨k,true,rfl,HP.out,aC.out.below⟩
    ·have HP2:=Hd (show PlaceAt zs C E k false by have h:=HP.out; rw [decide_eq_false hq2] at h; exact h)
     have hq3 : (q == 0) = false:=by simpa using hq2
     go_wp2
     exact bodyPost_ret (v:=.tuple #[.int .i64 k,.bool false]) (by simp [results,Tryz.results61,go_sem]) rfl ⟨k,false,rfl,HP2.out,aC.out.below⟩
   ·have HT2:=Hd (show ∀ (j : Nat) (z : Lr),j < k + 1 → zs[j]? = some z → cmpK z.A z.B C E < 0 from fun j z hj hz=>by
     by_cases e : j = k
     ·subst e
      obtain rfl:=Option.some.inj (HZ.out.symm.trans hz)
      show cmpK ZA ZB C E < 0
      rw [HQ.out]; omega
     ·exact HT.out j z (by omega) hz)
    have hq1 : q < 0:=by omega
    go_wp2
    exact ⟨⟨k + 1,by omega,by go_num,HT2.out,aC.out⟩,by simp [intOf]; omega⟩
  ·obtain rfl : k = n:=by omega
   have HP:=Hd (show PlaceAt zs C E k false from ⟨by rw [HL.out]; exact Nat.le_refl _,HT.out,fun z hz=>by have:=(List.getElem?_eq_some_iff.mp hz).1; rw [HL.out] at this; omega,fun _=>rfl⟩)
   go_wp2
   exact bodyPost_ret (v:=.tuple #[.int .i64 k,.bool false]) (by simp [results,Tryz.results61,go_sem]) rfl ⟨k,false,rfl,HP.out,aA.out.below⟩
end Go.Proofs.YtodoiekbjjiocaaGreat
