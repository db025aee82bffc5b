/- AddLink of the model. Conditions: none. -/
import Derived.Test.YtodoiekbjjiocaaGreatJPk
import Derived.Test.YtodoiekbjjiocaaGreatJAddAns
import Derived.Test.YtodoiekbjjiocaaGreatJHand
import Derived.Test.YtodoiekbjjiocaaGreatJLk5
import Derived.Test.YtodoiekbjjiocaaGreatJConcat
namespace Go.Proofs.YtodoiekbjjiocaaGreat
open Go.RowKit Nt Fr
set_option linter.unusedVariables false
set_option maxRecDepth 100000
set_option maxHeartbeats 4000000
theorem LArg.upto {w : World} {A : Option Addr} {n k : Nat} {zs : List Lr} (h : LArg w A n zs) (hk : k ≤ n) : LArg w A k (zs.take k):=by
 refine ⟨⟨by rw [List.length_take,h.row.1]; omega,fun hp=>?_,fun z hz=>h.row.2.2 z (List.mem_of_mem_take hz)⟩,fun z hz=>h.arg z (List.mem_of_mem_take hz)⟩
 obtain ⟨g,o,e,hg,hc⟩:=h.row.2.1 (by omega)
 refine ⟨g,o,e,hg,fun j hj i v hv=>hc j (by rw [List.length_take] at hj; omega) i v ?_⟩
 rw [List.getElem_take] at hv; exact hv
theorem LArg.from_ {w : World} {g o n k : Nat} {zs : List Lr} (h : LArg w (some ⟨g,o,none⟩) n zs) (hk : k ≤ n) : LArg w (some ⟨g,o + k * 11,none⟩) (n - k) (zs.drop k):=by
 refine ⟨⟨by rw [List.length_drop,h.row.1],fun hp=>?_,fun z hz=>h.row.2.2 z (List.mem_of_mem_drop hz)⟩,fun z hz=>h.arg z (List.mem_of_mem_drop hz)⟩
 obtain ⟨g',o',e,hg,hc⟩:=h.row.2.1 (by omega)
 obtain ⟨rfl,rfl⟩ : g = g' ∧ o = o':=by simpa using e
 refine ⟨g,o + k * 11,rfl,hg,fun j hj i v hv=>?_⟩
 rw [List.length_drop] at hj
 rw [List.getElem_drop] at hv
 have:=hc (k + j) (by omega) i v hv
 rw [show o + (k + j) * 11 + i = o + k * 11 + j * 11 + i by omega] at this
 exact this
def ltAt (ys : List Lr) (k : Nat) (a b : Int) : Bool:=match ys[k]? with | some z=>lessK z.A z.B a b | none=>false
def eqAt (ys : List Lr) (k : Nat) (a b : Int) : Bool:=match ys[k]? with | some z=>!lessK a b z.A z.B | none=>false
theorem less_at {ys : List Lr} {k : Nat} {z : Lr} (h : ys[k]? = some z) (a b : Int) : ltAt ys k a b = lessK z.A z.B a b:=by simp [ltAt,h]
theorem eq_at {ys : List Lr} {k : Nat} {z : Lr} (h : ys[k]? = some z) (a b : Int) : eqAt ys k a b = !lessK a b z.A z.B:=by simp [eqAt,h]
theorem less_out {ys : List Lr} {k : Nat} (h : ¬ k < ys.length) (a b : Int) : ltAt ys k a b = false:=by simp [ltAt,List.getElem?_eq_none (Nat.le_of_not_lt h)]
theorem eq_out {ys : List Lr} {k : Nat} (h : ¬ k < ys.length) (a b : Int) : eqAt ys k a b = false:=by simp [eqAt,List.getElem?_eq_none (Nat.le_of_not_lt h)]
theorem place_of {ys : List Lr} {a b : Int} {k : Nat} (hk : k ≤ ys.length) (h : ∀ (j : Nat) (z : Lr),j < k → ys[j]? = some z → cmpK z.A z.B a b < 0) (hn : ltAt ys k a b = false) : PlaceAt ys a b k (eqAt ys k a b):=by
 refine ⟨hk,h,fun z hz=>?_,fun e=>eq_out (by omega) a b⟩
 rw [less_at hz] at hn
 rw [eq_at hz]
 have h0 : ¬ cmpK z.A z.B a b < 0:=by rw [cmpK_less,hn]; simp
 refine ⟨by omega,?_⟩
 simp only [lessK,cmpK,cmpI2] at hn h0 ⊢
 by_cases c1 : z.A < a <;> by_cases c2 : z.A = a <;> by_cases c3 : z.B < b <;> by_cases c4 : z.B = b <;> by_cases c5 : a < z.A <;> by_cases c6 : b < z.B <;> simp_all <;> omega
theorem own_types {w : World} {base base' n : Nat} {v u : Value} {X Y : List Value} (h : w.ownsRow base 40 11 v n X) (h2 : OwnV w base' 3 u Y) : Far v.ownBlock u.ownBlock:=by
 intro j e1 e2
 rcases h2 with ⟨rfl,_⟩ | ⟨g,c,ys,rfl,_,_,hw,_⟩
 ·cases e2
 ·have hg : g = j:=by simpa [Value.ownBlock] using e2
  subst hg
  rcases h.2 with ⟨rfl,_⟩ | ⟨g2,cap,cur,rfl,_,q2,_⟩
  ·cases e1
  ·have hg2 : g2 = g:=by simpa [Value.ownBlock] using e1
   subst hg2
   rcases hw.2 with ⟨hv,_⟩ | ⟨g3,cap3,cur3,hv,_,q3,_⟩
   ·cases hv
   ·have hg3 : g2 = g3:=by simp at hv; exact hv.1
    subst hg3
    rw [q2] at q3
    simp at q3
theorem cmpK_same {A B C E : Int} (h : cmpK A B C E = 0) : A = C ∧ B = E:=by
 simp only [cmpK,cmpI2] at h
 by_cases c1 : A < C <;> by_cases c2 : A = C <;> by_cases c3 : B < E <;> by_cases c4 : B = E <;> simp_all <;> omega
theorem addLink_s (A : Option Addr) (n c : Nat) (zs : List Lr) (x : Lr) (w : World) (hA : LArg w A n zs) (hn : n ≤ 1048576) (hL : LkA w x.P x.Q x.R x.p0 x.p1 x.q0 x.q1 x.r0 x.r1) :
 Calls Tryz.prog 7 #[.slice A n c,.agg #[.int .i64 x.A,.int .i64 x.B,.bool x.P.s,x.p0,x.p1,.bool x.Q.s,x.q0,x.q1,.bool x.R.s,x.r0,x.r1]] w (OwnSE (alAns (okSet zs && okK x.A x.B x.P x.Q x.R) (dts zs) x.d) w):=by
 obtain ⟨i0,hi,hz0,hz1,hz2⟩:=info_parts info_link
 obtain ⟨ZA,ZB,ZP,ZQ,ZR,a0,n0,d0,a1,n1,d1,a2,n2,d2,a3,n3,d3,a4,n4,d4,a5,n5,d5,rfl⟩:=LArg.shapes hL
 have HL:=Hd (show LkA w ZP ZQ ZR (.slice a0 n0 d0) (.slice a1 n1 d1) (.slice a2 n2 d2) (.slice a3 n3 d3) (.slice a4 n4 d4) (.slice a5 n5 d5) from hL)
 have HA:=Hd hA
 have HZL:=Hd hA.row.1
 clear hL hA
 show Calls Tryz.prog 7 #[.slice A n c,.agg #[.int .i64 ZA,.int .i64 ZB,.bool ZP.s,(.slice a0 n0 d0),(.slice a1 n1 d1),.bool ZQ.s,(.slice a2 n2 d2),(.slice a3 n3 d3),.bool ZR.s,(.slice a4 n4 d4),(.slice a5 n5 d5)]] w (OwnSE (alAns (okSet zs && okK ZA ZB ZP ZQ ZR) (dts zs) ⟨ZA,ZB,ZP,ZQ,ZR⟩) w)
 obtain ⟨os,hos⟩ : ∃ q,okSet zs = q:=⟨_,rfl⟩
 have HOS:=Hd hos
 obtain ⟨ok,hok⟩ : ∃ q,okK ZA ZB ZP ZQ ZR = q:=⟨_,rfl⟩
 have HOK:=Hd hok
 rw [hos,hok]
 clear hos hok
 have d6:=Hd (St.start2 w [.int .i64 ZA,.int .i64 ZB,.bool ZP.s,(.slice a0 n0 d0),(.slice a1 n1 d1),.bool ZQ.s,(.slice a2 n2 d2),(.slice a3 n3 d3),.bool ZR.s,(.slice a4 n4 d4),(.slice a5 n5 d5)] 40 [.bool false,.slice none 0 0,.slice none 0 0] 35)
 have cU : w.heap.size + 1 ≠ w.heap.size:=by omega
 have cV : w.heap.size ≠ w.heap.size + 1:=by omega
 go_enter Tryz.func7,Tryz.ntmps7
 obtain ⟨cC,cD,cE,cF,cG,cH,cI,cJ,cK,cL,cA⟩:=d6.out.c11 1 rfl
 go_wp2_with fail
 clear cC cD cE cF cG cH cI cJ cK cL cA
 refine (isLinkSet_s A n c zs _ (HA.out.below d6.out.below) hn).mono ?_
 rintro e w1 ⟨rfl,hb⟩
 have cB:=Hd (d6.out.call hb)
 clear d6
 clear hb
 rw [HOS.out]
 have hge_e:=cB.out.ge 0 rfl
 have hge_l:=cB.out.ge 1 rfl
 have hlt_e:=cB.out.lt 0 rfl
 have hlt_l:=cB.out.lt 1 rfl
 obtain ⟨be,hbe⟩ : ∃ u,w.heap.size + 1 = u:=⟨_,rfl⟩
 obtain ⟨bl,hbl⟩ : ∃ u,w.heap.size = u:=⟨_,rfl⟩
 have HBL:=Hd hbl
 have HBE:=Hd hbe
 rw [hbe] at cB hge_e hlt_e ⊢
 rw [hbl] at cB hlt_l ⊢
 have hbel : be ≠ bl:=by omega
 have hbel2 : bl ≠ be:=by omega
 clear hbe hbl cV cU
 cases os with
 | false=>
  obtain ⟨cM,dH,cN,dI,cO,dJ⟩:=cB.out.g3 0 rfl
  obtain ⟨bL,bM,bN,bO,bP,bQ,bR,bS,bT,bU,bI⟩:=cB.out.c11 1 rfl
  go_wp2
  have SZ:=Hd (cB.out.setAll 0 [.bool false,.slice none 0 0,.slice none 0 0] rfl rfl)
  exact bodyPost_ret (v:=.tuple #[.slice none 0 0,.agg #[.bool false,.slice none 0 0,.slice none 0 0],.bool false]) (by simp [results,Tryz.results7,go_sem,cM,cN,cO]) rfl (⟨rfl,SZ.out.below⟩)
 | true=>
  have HV:=Hd (okSet_ok HOS.out)
  obtain ⟨bL,bM,bN,bO,bP,bQ,bR,bS,bT,bU,bI⟩:=cB.out.c11 1 rfl
  go_wp2_with fail
  clear bL bM bN bO bP bQ bR bS bT bU bI
  refine (isValidLink_s ZA ZB ZP ZQ ZR (.slice a0 n0 d0) (.slice a1 n1 d1) (.slice a2 n2 d2) (.slice a3 n3 d3) (.slice a4 n4 d4) (.slice a5 n5 d5) _ (HL.out.below cB.out.below)).mono ?_
  rintro e w2 ⟨rfl,hb⟩
  have dE:=Hd (cB.out.call hb)
  clear cB
  clear hb
  rw [HOK.out]
  cases ok with
  | false=>
   obtain ⟨cP,dK,cQ,dL,cR,dM⟩:=dE.out.g3 0 rfl
   obtain ⟨dP,dQ,dR,dS,dT,dU,dV,dW,dX,dY,dN⟩:=dE.out.c11 1 rfl
   go_wp2
   have SZ:=Hd (dE.out.setAll 0 [.bool false,.slice none 0 0,.slice none 0 0] rfl rfl)
   exact bodyPost_ret (v:=.tuple #[.slice none 0 0,.agg #[.bool false,.slice none 0 0,.slice none 0 0],.bool false]) (by simp [results,Tryz.results7,go_sem,cP,cQ,cR]) rfl (⟨rfl,SZ.out.below⟩)
  | true=>
   go_wp2_with fail
   refine (l06All_f A n c zs _ (HA.out.below dE.out.below) hn HV.out).mono ?_
   rintro e w3 ⟨v3,ys,rfl,hdt,hg3⟩
   have G_3:=Hd (hg3.based dE.out.below)
   have d7:=Hd hdt
   have dO:=Hd (len_like hdt)
   have HVY:=Hd (ok_like hdt HV.out)
   have hbe2:=dE.out.lt 0 rfl
   have HOE:=Hd (show v3.ownBlock ≠ some be from fun e=>by have:=(hg3.own.lt be e).1; omega)
   have HOR:=Hd (hg3.row.young hbe2)
   have dG:=Hd (dE.out.call hg3.below)
   clear dE
   clear hg3 hdt
   obtain ⟨A3,c3,rfl,hA3⟩:=larg_grow G_3.out
   have HA3:=Hd hA3
   have hyn : ys.length ≤ 1048576:=by rw [dO.out,HZL.out]; exact hn
   clear hA3
   have d8:=Hd (dG.out.held 0 rfl)
   have hel3:=dG.out.lt 0 rfl
   have hll3:=dG.out.lt 1 rfl
   have HBB:=Hd dG.out.below
   have HL3:=Hd (HL.out.below dG.out.below)
   obtain ⟨l0,l1,l2,l3,l4,l5,l6,l7,l8,l9,l10⟩:=dG.out.c11 1 rfl
   have HANS:=Hd (show alAns true (dts zs) ⟨ZA,ZB,ZP,ZQ,ZR⟩ = addD (dts ys) ⟨ZA,ZB,ZP,ZQ,ZR⟩ from by rw [d7.out]; rfl)
   clear dG HA HL HV HOS HZL d7 dO
   have dZ:=Hd (St.start w3)
   go_wp2_with fail
   go_loopw [8] (fun i wr=>∃ k : Nat,k ≤ ys.length ∧ i = .int .i64 k ∧ (∀ (j : Nat) (z : Lr),j < k → ys[j]? = some z → cmpK z.A z.B ZA ZB < 0) ∧ St w3 wr [] []) (fun i _=>ys.length - (intOf i).toNat)
   case atStart=>exact ⟨0,Nat.zero_le _,rfl,fun j z hj=>by omega,dZ.out⟩
   case round=>
    obtain ⟨k,hk,rfl,hlt,hst⟩:=hrel
    have HT:=Hd hlt
    have bV:=Hd hst
    clear hlt hst dZ
    go_upto_region 5 with fail
    go_cut [35] (fun q wx=>q = .bool (ltAt ys k ZA ZB) ∧ St w3 wx [] [])
    case first=>
     by_cases hkn : k < ys.length
     ·have htag:=hkn
      obtain ⟨g,o,y,hAe,hg,hz,hr,hc⟩:=HA3.out.at_ hkn
      subst hAe
      obtain ⟨YA,YB,YP,YQ,YR,a0y,n0y,d0y,a1y,n1y,d1y,a2y,n2y,d2y,a3y,n3y,d3y,a4y,n4y,d4y,a5y,n5y,d5y,rfl⟩:=LArg.shapes hr
      have dO:=Hd (show LkA w3 YP YQ YR (.slice a0y n0y d0y) (.slice a1y n1y d1y) (.slice a2y n2y d2y) (.slice a3y n3y d3y) (.slice a4y n4y d4y) (.slice a5y n5y d5y) from hr)
      have HZ:=Hd hz
      have HC:=Hd hc
      have c0 : w3.cell? ⟨g,o + k * 11,none⟩ = some (.int .i64 YA):=hc 0 _ rfl
      have c1 : w3.cell? ⟨g,o + k * 11 + 1,none⟩ = some (.int .i64 YB):=hc 1 _ rfl
      have c2 : w3.cell? ⟨g,o + k * 11 + 2,none⟩ = some (.bool YP.s):=hc 2 _ rfl
      have c3 : w3.cell? ⟨g,o + k * 11 + 3,none⟩ = some ((.slice a0y n0y d0y)):=hc 3 _ rfl
      have c4 : w3.cell? ⟨g,o + k * 11 + 4,none⟩ = some ((.slice a1y n1y d1y)):=hc 4 _ rfl
      have c5 : w3.cell? ⟨g,o + k * 11 + 5,none⟩ = some (.bool YQ.s):=hc 5 _ rfl
      have c6 : w3.cell? ⟨g,o + k * 11 + 6,none⟩ = some ((.slice a2y n2y d2y)):=hc 6 _ rfl
      have c7 : w3.cell? ⟨g,o + k * 11 + 7,none⟩ = some ((.slice a3y n3y d3y)):=hc 7 _ rfl
      have c8 : w3.cell? ⟨g,o + k * 11 + 8,none⟩ = some (.bool YR.s):=hc 8 _ rfl
      have c9 : w3.cell? ⟨g,o + k * 11 + 9,none⟩ = some ((.slice a4y n4y d4y)):=hc 9 _ rfl
      have c10 : w3.cell? ⟨g,o + k * 11 + 10,none⟩ = some ((.slice a5y n5y d5y)):=hc 10 _ rfl
      clear hz hr hc
      refine wp_region_noPanic ?_
      refine wp_region_held_drew (S:=(fun w' =>w'.cell? ⟨bl,0,none⟩ = some (.int .i64 ZA) ∧ w'.cell? ⟨bl,1,none⟩ = some (.int .i64 ZB) ∧ w'.cell? ⟨bl,2,none⟩ = some (.bool ZP.s) ∧ w'.cell? ⟨bl,3,none⟩ = some ((.slice a0 n0 d0)) ∧ w'.cell? ⟨bl,4,none⟩ = some ((.slice a1 n1 d1)) ∧ w'.cell? ⟨bl,5,none⟩ = some (.bool ZQ.s) ∧ w'.cell? ⟨bl,6,none⟩ = some ((.slice a2 n2 d2)) ∧ w'.cell? ⟨bl,7,none⟩ = some ((.slice a3 n3 d3)) ∧ w'.cell? ⟨bl,8,none⟩ = some (.bool ZR.s) ∧ w'.cell? ⟨bl,9,none⟩ = some ((.slice a4 n4 d4)) ∧ w'.cell? ⟨bl,10,none⟩ = some ((.slice a5 n5 d5)) ∧ w'.cell? ⟨g,o + k * 11,none⟩ = some (.int .i64 YA) ∧ w'.cell? ⟨g,o + k * 11 + 1,none⟩ = some (.int .i64 YB) ∧ w'.cell? ⟨g,o + k * 11 + 2,none⟩ = some (.bool YP.s) ∧ w'.cell? ⟨g,o + k * 11 + 3,none⟩ = some ((.slice a0y n0y d0y)) ∧ w'.cell? ⟨g,o + k * 11 + 4,none⟩ = some ((.slice a1y n1y d1y)) ∧ w'.cell? ⟨g,o + k * 11 + 5,none⟩ = some (.bool YQ.s) ∧ w'.cell? ⟨g,o + k * 11 + 6,none⟩ = some ((.slice a2y n2y d2y)) ∧ w'.cell? ⟨g,o + k * 11 + 7,none⟩ = some ((.slice a3y n3y d3y)) ∧ w'.cell? ⟨g,o + k * 11 + 8,none⟩ = some (.bool YR.s) ∧ w'.cell? ⟨g,o + k * 11 + 9,none⟩ = some ((.slice a4y n4y d4y)) ∧ w'.cell? ⟨g,o + k * 11 + 10,none⟩ = some ((.slice a5y n5y d5y)))) (by kernel_rfl) ?_ (fun bD=>?_)
      ·exact (bd11 bV.out.drew.below hll3 l0 l1 l2 l3 l4 l5 l6 l7 l8 l9 l10 (bc11 bV.out.drew.below hg c0 c1 c2 c3 c4 c5 c6 c7 c8 c9 c10))
      have b6:=Hd bV.out.drew
      clear bV
      generalize hwd : World.drew _ = wd at b6 bD ⊢
      clear hwd
      refine tI 0 rfl ?_ ?_ ?_
      rotate_left
      ·intro w9 aA; (try dsimp only at aA); go_simp; try with_reducible rfl
      try simp only [pm,s0,sS]
      refine tI 1 rfl ?_ ?_ ?_
      rotate_left
      ·intro w9 aA; (try dsimp only at aA); go_simp; try with_reducible rfl
      try simp only [pm,s0,sS]
      refine tI 2 rfl ?_ ?_ ?_
      rotate_left
      ·intro w9 aA; (try dsimp only at aA); go_simp; try with_reducible rfl
      try simp only [pm,s0,sS]
      refine tI 3 rfl ?_ ?_ ?_
      rotate_left
      ·intro w9 aA; (try dsimp only at aA); go_simp; try with_reducible rfl
      try simp only [pm,s0,sS]
      refine tI 4 rfl ?_ ?_ ?_
      rotate_left
      ·intro w9 aA; (try dsimp only at aA); go_simp; try with_reducible rfl
      try simp only [pm,s0,sS]
      refine tI 5 rfl ?_ ?_ ?_
      rotate_left
      ·intro w9 aA; (try dsimp only at aA); go_simp; try with_reducible rfl
      try simp only [pm,s0,sS]
      refine tI 6 rfl ?_ ?_ ?_
      rotate_left
      ·intro w9 aA; (try dsimp only at aA); go_simp; try with_reducible rfl
      try simp only [pm,s0,sS]
      refine tI 7 rfl ?_ ?_ ?_
      rotate_left
      ·intro w9 aA; (try dsimp only at aA); go_simp; try with_reducible rfl
      try simp only [pm,s0,sS]
      refine tI 8 rfl ?_ ?_ ?_
      rotate_left
      ·intro w9 aA; (try dsimp only at aA); go_simp; try with_reducible rfl
      try simp only [pm,s0,sS]
      refine tI 9 rfl ?_ ?_ ?_
      rotate_left
      ·intro w9 aA; (try dsimp only at aA); go_simp; try with_reducible rfl
      try simp only [pm,s0,sS]
      refine wpAnyH_ready (rs:=[10]) (by kernel_rfl) (by simp) ?_
      refine ac rfl (fun K hK=>?_) AllReadyH.nil
      go_simp
      go_at_call 25
      refine (l06Less_f YA YB YP YQ YR (.slice a0y n0y d0y) (.slice a1y n1y d1y) (.slice a2y n2y d2y) (.slice a3y n3y d3y) (.slice a4y n4y d4y) (.slice a5y n5y d5y) ZA ZB ZP ZQ ZR (.slice a0 n0 d0) (.slice a1 n1 d1) (.slice a2 n2 d2) (.slice a3 n3 d3) (.slice a4 n4 d4) (.slice a5 n5 d5) _).mono ?_
      rintro e w5 ⟨rfl,hb⟩
      have SX:=Hd (b6.out.call hb)
      clear hb b6
      refine hK.out _ _ (bd11 SX.out.below hll3 l0 l1 l2 l3 l4 l5 l6 l7 l8 l9 l10 (bc11 SX.out.below hg c0 c1 c2 c3 c4 c5 c6 c7 c8 c9 c10)) (fun bB=>?_)
      clear hK K
      try simp only [pm,s0,sS]
      refine tI 11 rfl ?_ ?_ ?_
      rotate_left
      ·intro w9 aA; (try dsimp only at aA); go_simp; try with_reducible rfl
      try simp only [pm,s0,sS]
      refine wpAnyH_done (by kernel_rfl) ?_ _
      refine NoPanic.normal ?_
      go_wp2_with fail
      go_meet
      exact ⟨by rw [less_at HZ.out],SX.out⟩
     ·have htag:=hkn
      refine wp_region_noPanic ?_
      refine wp_region_held_drew (S:=(fun w' =>w'.cell? ⟨bl,0,none⟩ = some (.int .i64 ZA) ∧ w'.cell? ⟨bl,1,none⟩ = some (.int .i64 ZB) ∧ w'.cell? ⟨bl,2,none⟩ = some (.bool ZP.s) ∧ w'.cell? ⟨bl,3,none⟩ = some ((.slice a0 n0 d0)) ∧ w'.cell? ⟨bl,4,none⟩ = some ((.slice a1 n1 d1)) ∧ w'.cell? ⟨bl,5,none⟩ = some (.bool ZQ.s) ∧ w'.cell? ⟨bl,6,none⟩ = some ((.slice a2 n2 d2)) ∧ w'.cell? ⟨bl,7,none⟩ = some ((.slice a3 n3 d3)) ∧ w'.cell? ⟨bl,8,none⟩ = some (.bool ZR.s) ∧ w'.cell? ⟨bl,9,none⟩ = some ((.slice a4 n4 d4)) ∧ w'.cell? ⟨bl,10,none⟩ = some ((.slice a5 n5 d5)))) (by kernel_rfl) ?_ (fun bD=>?_)
      ·exact (bc11 bV.out.drew.below hll3 l0 l1 l2 l3 l4 l5 l6 l7 l8 l9 l10)
      have b6:=Hd bV.out.drew
      clear bV
      generalize hwd : World.drew _ = wd at b6 bD ⊢
      clear hwd
      refine tI 0 rfl ?_ ?_ ?_
      rotate_left
      ·intro w9 aA; (try dsimp only at aA); go_simp; try with_reducible rfl
      try simp only [pm,s0,sS]
      refine tI 1 rfl ?_ ?_ ?_
      rotate_left
      ·intro w9 aA; (try dsimp only at aA); go_simp; try with_reducible rfl
      try simp only [pm,s0,sS]
      refine tI 2 rfl ?_ ?_ ?_
      rotate_left
      ·intro w9 aA; (try dsimp only at aA); go_simp; try with_reducible rfl
      try simp only [pm,s0,sS]
      refine tI 3 rfl ?_ ?_ ?_
      rotate_left
      ·intro w9 aA; (try dsimp only at aA); go_simp; try with_reducible rfl
      try simp only [pm,s0,sS]
      refine tI 4 rfl ?_ ?_ ?_
      rotate_left
      ·intro w9 aA; (try dsimp only at aA); go_simp; try with_reducible rfl
      try simp only [pm,s0,sS]
      refine tN 5 rfl ?_
      try simp only [pm,s0,sS]
      refine tN 6 rfl ?_
      try simp only [pm,s0,sS]
      refine tN 7 rfl ?_
      try simp only [pm,s0,sS]
      refine tN 8 rfl ?_
      try simp only [pm,s0,sS]
      refine tN 9 rfl ?_
      try simp only [pm,s0,sS]
      refine wpAnyH_ready (rs:=[10]) (by kernel_rfl) (by simp) ?_
      refine ac rfl (fun K hK=>?_) AllReadyH.nil
      go_simp
      refine hK.out _ _ (bc11 b6.out.below hll3 l0 l1 l2 l3 l4 l5 l6 l7 l8 l9 l10) (fun bB=>?_)
      clear hK K
      try simp only [pm,s0,sS]
      refine tI 11 rfl ?_ ?_ ?_
      rotate_left
      ·intro w9 aA; (try dsimp only at aA); go_simp; try with_reducible rfl
      try simp only [pm,s0,sS]
      refine wpAnyH_done (by kernel_rfl) ?_ _
      refine NoPanic.normal ?_
      go_wp2_with fail
      go_meet
      exact ⟨by rw [less_out hkn],b6.out⟩
    obtain ⟨rfl,hst⟩:=hcut
    have bE:=Hd hst
    clear hst bV
    obtain ⟨bt,hbt⟩ : ∃ u,ltAt ys k ZA ZB = u:=⟨_,rfl⟩
    have HBT:=Hd hbt
    rw [hbt]
    clear hbt
    cases bt with
    | true=>
     have hkn : k < ys.length:=Nat.lt_of_not_le fun h=>by have h2:=HBT.out; rw [less_out (by omega)] at h2; cases h2
     go_wp2
     exact ⟨⟨k + 1,by omega,by go_num,fun j z hj hz=>(Nat.lt_succ_iff_lt_or_eq.mp hj).elim (fun h=>HT.out j z h hz) (fun h=>by subst h; rw [cmpK_less,← less_at hz]; exact HBT.out),bE.out⟩,by simp [intOf]; omega⟩
    | false=>
     have HP:=Hd (place_of hk HT.out HBT.out)
     go_upto_region 7 with fail
     go_cut [50] (fun q wx=>q = .bool (eqAt ys k ZA ZB) ∧ St w3 wx [] [])
     case first=>
      by_cases hkn : k < ys.length
      ·have htag:=hkn
       obtain ⟨g,o,y,hAe,hg,hz,hr,hc⟩:=HA3.out.at_ hkn
       subst hAe
       obtain ⟨YA,YB,YP,YQ,YR,a0y,n0y,d0y,a1y,n1y,d1y,a2y,n2y,d2y,a3y,n3y,d3y,a4y,n4y,d4y,a5y,n5y,d5y,rfl⟩:=LArg.shapes hr
       have dO:=Hd (show LkA w3 YP YQ YR (.slice a0y n0y d0y) (.slice a1y n1y d1y) (.slice a2y n2y d2y) (.slice a3y n3y d3y) (.slice a4y n4y d4y) (.slice a5y n5y d5y) from hr)
       have HZ:=Hd hz
       have HC:=Hd hc
       have c0 : w3.cell? ⟨g,o + k * 11,none⟩ = some (.int .i64 YA):=hc 0 _ rfl
       have c1 : w3.cell? ⟨g,o + k * 11 + 1,none⟩ = some (.int .i64 YB):=hc 1 _ rfl
       have c2 : w3.cell? ⟨g,o + k * 11 + 2,none⟩ = some (.bool YP.s):=hc 2 _ rfl
       have c3 : w3.cell? ⟨g,o + k * 11 + 3,none⟩ = some ((.slice a0y n0y d0y)):=hc 3 _ rfl
       have c4 : w3.cell? ⟨g,o + k * 11 + 4,none⟩ = some ((.slice a1y n1y d1y)):=hc 4 _ rfl
       have c5 : w3.cell? ⟨g,o + k * 11 + 5,none⟩ = some (.bool YQ.s):=hc 5 _ rfl
       have c6 : w3.cell? ⟨g,o + k * 11 + 6,none⟩ = some ((.slice a2y n2y d2y)):=hc 6 _ rfl
       have c7 : w3.cell? ⟨g,o + k * 11 + 7,none⟩ = some ((.slice a3y n3y d3y)):=hc 7 _ rfl
       have c8 : w3.cell? ⟨g,o + k * 11 + 8,none⟩ = some (.bool YR.s):=hc 8 _ rfl
       have c9 : w3.cell? ⟨g,o + k * 11 + 9,none⟩ = some ((.slice a4y n4y d4y)):=hc 9 _ rfl
       have c10 : w3.cell? ⟨g,o + k * 11 + 10,none⟩ = some ((.slice a5y n5y d5y)):=hc 10 _ rfl
       clear hz hr hc
       refine wp_region_noPanic ?_
       refine wp_region_held_drew (S:=(fun w' =>w'.cell? ⟨bl,0,none⟩ = some (.int .i64 ZA) ∧ w'.cell? ⟨bl,1,none⟩ = some (.int .i64 ZB) ∧ w'.cell? ⟨bl,2,none⟩ = some (.bool ZP.s) ∧ w'.cell? ⟨bl,3,none⟩ = some ((.slice a0 n0 d0)) ∧ w'.cell? ⟨bl,4,none⟩ = some ((.slice a1 n1 d1)) ∧ w'.cell? ⟨bl,5,none⟩ = some (.bool ZQ.s) ∧ w'.cell? ⟨bl,6,none⟩ = some ((.slice a2 n2 d2)) ∧ w'.cell? ⟨bl,7,none⟩ = some ((.slice a3 n3 d3)) ∧ w'.cell? ⟨bl,8,none⟩ = some (.bool ZR.s) ∧ w'.cell? ⟨bl,9,none⟩ = some ((.slice a4 n4 d4)) ∧ w'.cell? ⟨bl,10,none⟩ = some ((.slice a5 n5 d5)) ∧ w'.cell? ⟨g,o + k * 11,none⟩ = some (.int .i64 YA) ∧ w'.cell? ⟨g,o + k * 11 + 1,none⟩ = some (.int .i64 YB) ∧ w'.cell? ⟨g,o + k * 11 + 2,none⟩ = some (.bool YP.s) ∧ w'.cell? ⟨g,o + k * 11 + 3,none⟩ = some ((.slice a0y n0y d0y)) ∧ w'.cell? ⟨g,o + k * 11 + 4,none⟩ = some ((.slice a1y n1y d1y)) ∧ w'.cell? ⟨g,o + k * 11 + 5,none⟩ = some (.bool YQ.s) ∧ w'.cell? ⟨g,o + k * 11 + 6,none⟩ = some ((.slice a2y n2y d2y)) ∧ w'.cell? ⟨g,o + k * 11 + 7,none⟩ = some ((.slice a3y n3y d3y)) ∧ w'.cell? ⟨g,o + k * 11 + 8,none⟩ = some (.bool YR.s) ∧ w'.cell? ⟨g,o + k * 11 + 9,none⟩ = some ((.slice a4y n4y d4y)) ∧ w'.cell? ⟨g,o + k * 11 + 10,none⟩ = some ((.slice a5y n5y d5y)))) (by kernel_rfl) ?_ (fun bD=>?_)
       ·exact (bd11 bE.out.drew.below hll3 l0 l1 l2 l3 l4 l5 l6 l7 l8 l9 l10 (bc11 bE.out.drew.below hg c0 c1 c2 c3 c4 c5 c6 c7 c8 c9 c10))
       have b6:=Hd bE.out.drew
       clear bE
       generalize hwd : World.drew _ = wd at b6 bD ⊢
       clear hwd
       refine tI 0 rfl ?_ ?_ ?_
       rotate_left
       ·intro w9 aA; (try dsimp only at aA); go_simp; try with_reducible rfl
       try simp only [pm,s0,sS]
       refine tI 1 rfl ?_ ?_ ?_
       rotate_left
       ·intro w9 aA; (try dsimp only at aA); go_simp; try with_reducible rfl
       try simp only [pm,s0,sS]
       refine tI 2 rfl ?_ ?_ ?_
       rotate_left
       ·intro w9 aA; (try dsimp only at aA); go_simp; try with_reducible rfl
       try simp only [pm,s0,sS]
       refine tI 3 rfl ?_ ?_ ?_
       rotate_left
       ·intro w9 aA; (try dsimp only at aA); go_simp; try with_reducible rfl
       try simp only [pm,s0,sS]
       refine tI 4 rfl ?_ ?_ ?_
       rotate_left
       ·intro w9 aA; (try dsimp only at aA); go_simp; try with_reducible rfl
       try simp only [pm,s0,sS]
       refine tI 5 rfl ?_ ?_ ?_
       rotate_left
       ·intro w9 aA; (try dsimp only at aA); go_simp; try with_reducible rfl
       try simp only [pm,s0,sS]
       refine tI 6 rfl ?_ ?_ ?_
       rotate_left
       ·intro w9 aA; (try dsimp only at aA); go_simp; try with_reducible rfl
       try simp only [pm,s0,sS]
       refine tI 7 rfl ?_ ?_ ?_
       rotate_left
       ·intro w9 aA; (try dsimp only at aA); go_simp; try with_reducible rfl
       try simp only [pm,s0,sS]
       refine tI 8 rfl ?_ ?_ ?_
       rotate_left
       ·intro w9 aA; (try dsimp only at aA); go_simp; try with_reducible rfl
       try simp only [pm,s0,sS]
       refine tI 9 rfl ?_ ?_ ?_
       rotate_left
       ·intro w9 aA; (try dsimp only at aA); go_simp; try with_reducible rfl
       try simp only [pm,s0,sS]
       refine wpAnyH_ready (rs:=[10]) (by kernel_rfl) (by simp) ?_
       refine ac rfl (fun K hK=>?_) AllReadyH.nil
       go_simp
       go_at_call 25
       refine (l06Less_f ZA ZB ZP ZQ ZR (.slice a0 n0 d0) (.slice a1 n1 d1) (.slice a2 n2 d2) (.slice a3 n3 d3) (.slice a4 n4 d4) (.slice a5 n5 d5) YA YB YP YQ YR (.slice a0y n0y d0y) (.slice a1y n1y d1y) (.slice a2y n2y d2y) (.slice a3y n3y d3y) (.slice a4y n4y d4y) (.slice a5y n5y d5y) _).mono ?_
       rintro e w5 ⟨rfl,hb⟩
       have SX:=Hd (b6.out.call hb)
       clear hb b6
       refine hK.out _ _ (bd11 SX.out.below hll3 l0 l1 l2 l3 l4 l5 l6 l7 l8 l9 l10 (bc11 SX.out.below hg c0 c1 c2 c3 c4 c5 c6 c7 c8 c9 c10)) (fun bB=>?_)
       clear hK K
       try simp only [pm,s0,sS]
       refine tI 11 rfl ?_ ?_ ?_
       rotate_left
       ·intro w9 aA; (try dsimp only at aA); go_simp; try with_reducible rfl
       try simp only [pm,s0,sS]
       refine tI 12 rfl ?_ ?_ ?_
       rotate_left
       ·intro w9 aA; (try dsimp only at aA); go_simp; try with_reducible rfl
       try simp only [pm,s0,sS]
       refine wpAnyH_done (by kernel_rfl) ?_ _
       refine NoPanic.normal ?_
       go_wp2_with fail
       go_meet
       exact ⟨by rw [eq_at HZ.out],SX.out⟩
      ·have htag:=hkn
       refine wp_region_noPanic ?_
       refine wp_region_held_drew (S:=(fun w' =>w'.cell? ⟨bl,0,none⟩ = some (.int .i64 ZA) ∧ w'.cell? ⟨bl,1,none⟩ = some (.int .i64 ZB) ∧ w'.cell? ⟨bl,2,none⟩ = some (.bool ZP.s) ∧ w'.cell? ⟨bl,3,none⟩ = some ((.slice a0 n0 d0)) ∧ w'.cell? ⟨bl,4,none⟩ = some ((.slice a1 n1 d1)) ∧ w'.cell? ⟨bl,5,none⟩ = some (.bool ZQ.s) ∧ w'.cell? ⟨bl,6,none⟩ = some ((.slice a2 n2 d2)) ∧ w'.cell? ⟨bl,7,none⟩ = some ((.slice a3 n3 d3)) ∧ w'.cell? ⟨bl,8,none⟩ = some (.bool ZR.s) ∧ w'.cell? ⟨bl,9,none⟩ = some ((.slice a4 n4 d4)) ∧ w'.cell? ⟨bl,10,none⟩ = some ((.slice a5 n5 d5)))) (by kernel_rfl) ?_ (fun bD=>?_)
       ·exact (bc11 bE.out.drew.below hll3 l0 l1 l2 l3 l4 l5 l6 l7 l8 l9 l10)
       have b6:=Hd bE.out.drew
       clear bE
       generalize hwd : World.drew _ = wd at b6 bD ⊢
       clear hwd
       refine tI 0 rfl ?_ ?_ ?_
       rotate_left
       ·intro w9 aA; (try dsimp only at aA); go_simp; try with_reducible rfl
       try simp only [pm,s0,sS]
       refine tI 1 rfl ?_ ?_ ?_
       rotate_left
       ·intro w9 aA; (try dsimp only at aA); go_simp; try with_reducible rfl
       try simp only [pm,s0,sS]
       refine tI 2 rfl ?_ ?_ ?_
       rotate_left
       ·intro w9 aA; (try dsimp only at aA); go_simp; try with_reducible rfl
       try simp only [pm,s0,sS]
       refine tI 3 rfl ?_ ?_ ?_
       rotate_left
       ·intro w9 aA; (try dsimp only at aA); go_simp; try with_reducible rfl
       try simp only [pm,s0,sS]
       refine tI 4 rfl ?_ ?_ ?_
       rotate_left
       ·intro w9 aA; (try dsimp only at aA); go_simp; try with_reducible rfl
       try simp only [pm,s0,sS]
       refine tN 5 rfl ?_
       try simp only [pm,s0,sS]
       refine tN 6 rfl ?_
       try simp only [pm,s0,sS]
       refine tN 7 rfl ?_
       try simp only [pm,s0,sS]
       refine tN 8 rfl ?_
       try simp only [pm,s0,sS]
       refine tN 9 rfl ?_
       try simp only [pm,s0,sS]
       refine wpAnyH_ready (rs:=[10]) (by kernel_rfl) (by simp) ?_
       refine ac rfl (fun K hK=>?_) AllReadyH.nil
       go_simp
       refine hK.out _ _ (bc11 b6.out.below hll3 l0 l1 l2 l3 l4 l5 l6 l7 l8 l9 l10) (fun bB=>?_)
       clear hK K
       try simp only [pm,s0,sS]
       refine tN 11 rfl ?_
       try simp only [pm,s0,sS]
       refine tI 12 rfl ?_ ?_ ?_
       rotate_left
       ·intro w9 aA; (try dsimp only at aA); go_simp; try with_reducible rfl
       try simp only [pm,s0,sS]
       refine wpAnyH_done (by kernel_rfl) ?_ _
       refine NoPanic.normal ?_
       go_wp2_with fail
       go_meet
       exact ⟨by rw [eq_out hkn],b6.out⟩
     obtain ⟨rfl,hst⟩:=hcut
     have bC:=Hd hst
     clear hst bE
     obtain ⟨bq,hbq⟩ : ∃ u,eqAt ys k ZA ZB = u:=⟨_,rfl⟩
     have hp2:=HP.out
     rw [hbq] at hp2 ⊢
     have HP2:=Hd hp2
     clear hp2 hbq HP HBT HT
     cases bq with
     | true=>
      have hkn : k < ys.length:=Nat.lt_of_le_of_ne hk (fun h=>by have h2:=HP2.out.2.2.2 h; cases h2)
      have HE:=Hd (fun z hz=>add_hit (x:=⟨ZA,ZB,ZP,ZQ,ZR⟩) (i:=k) (y:=z) HP2.out hz)
      have hcm : ∀ z,ys[k]? = some z → cmpK z.A z.B ZA ZB = 0:=fun z hz=>by have h2:=(HP2.out.2.2.1 z hz).2; simpa using h2.symm
      have HCM:=Hd hcm
      have eF:=Hd (fun z (hz : ys[k]? = some z)=>HVY.out z (List.mem_of_getElem? hz))
      clear hcm
      obtain ⟨g,o,y,hAe,hg,hz,hr,hc⟩:=HA3.out.at_ hkn
      subst hAe
      obtain ⟨YA,YB,YP,YQ,YR,a0y,n0y,d0y,a1y,n1y,d1y,a2y,n2y,d2y,a3y,n3y,d3y,a4y,n4y,d4y,a5y,n5y,d5y,rfl⟩:=LArg.shapes hr
      have dO:=Hd (show LkA w3 YP YQ YR (.slice a0y n0y d0y) (.slice a1y n1y d1y) (.slice a2y n2y d2y) (.slice a3y n3y d3y) (.slice a4y n4y d4y) (.slice a5y n5y d5y) from hr)
      have HZ:=Hd hz
      have HC:=Hd hc
      have c0 : w3.cell? ⟨g,o + k * 11,none⟩ = some (.int .i64 YA):=hc 0 _ rfl
      have c1 : w3.cell? ⟨g,o + k * 11 + 1,none⟩ = some (.int .i64 YB):=hc 1 _ rfl
      have c2 : w3.cell? ⟨g,o + k * 11 + 2,none⟩ = some (.bool YP.s):=hc 2 _ rfl
      have c3 : w3.cell? ⟨g,o + k * 11 + 3,none⟩ = some ((.slice a0y n0y d0y)):=hc 3 _ rfl
      have c4 : w3.cell? ⟨g,o + k * 11 + 4,none⟩ = some ((.slice a1y n1y d1y)):=hc 4 _ rfl
      have c5 : w3.cell? ⟨g,o + k * 11 + 5,none⟩ = some (.bool YQ.s):=hc 5 _ rfl
      have c6 : w3.cell? ⟨g,o + k * 11 + 6,none⟩ = some ((.slice a2y n2y d2y)):=hc 6 _ rfl
      have c7 : w3.cell? ⟨g,o + k * 11 + 7,none⟩ = some ((.slice a3y n3y d3y)):=hc 7 _ rfl
      have c8 : w3.cell? ⟨g,o + k * 11 + 8,none⟩ = some (.bool YR.s):=hc 8 _ rfl
      have c9 : w3.cell? ⟨g,o + k * 11 + 9,none⟩ = some ((.slice a4y n4y d4y)):=hc 9 _ rfl
      have c10 : w3.cell? ⟨g,o + k * 11 + 10,none⟩ = some ((.slice a5y n5y d5y)):=hc 10 _ rfl
      clear hz hr hc
      have eG:=Hd (show okK YA YB YP YQ YR = true from eF.out _ HZ.out)
      have HSM:=Hd (show YA = ZA ∧ YB = ZB from cmpK_same (HCM.out _ HZ.out))
      have HE1:=Hd (show addD (dts ys) ⟨ZA,ZB,ZP,ZQ,ZR⟩ = if mwOk YA YB YP YQ YR ZP ZQ ZR = true then some ((dts ys).set k (mrgD ⟨YA,YB,YP,YQ,YR⟩ ⟨ZA,ZB,ZP,ZQ,ZR⟩),mgE YP YQ YR ZP ZQ ZR) else none from HE.out _ HZ.out)
      have HO0:=Hd (show o = 0 from by
      rcases G_3.out.own.2 with ⟨e,_⟩ | ⟨g2,cap,cur,e,_⟩
      ·cases e
      ·cases e; rfl)
      obtain ⟨ok,hhok⟩ : ∃ q,mwOk YA YB YP YQ YR ZP ZQ ZR = q:=⟨_,rfl⟩
      obtain ⟨NA,hhNA⟩ : ∃ q,pi ok YA = q:=⟨_,rfl⟩
      obtain ⟨NB,hhNB⟩ : ∃ q,pi ok YB = q:=⟨_,rfl⟩
      obtain ⟨NP,hhNP⟩ : ∃ q,pk ok (YP.add ZP) = q:=⟨_,rfl⟩
      obtain ⟨NQ,hhNQ⟩ : ∃ q,pk ok (mgX YP YQ ZP ZQ) = q:=⟨_,rfl⟩
      obtain ⟨NR,hhNR⟩ : ∃ q,pk ok (mgX YP YR ZP ZR) = q:=⟨_,rfl⟩
      obtain ⟨NE,hhNE⟩ : ∃ q,pk ok (mgE YP YQ YR ZP ZQ ZR) = q:=⟨_,rfl⟩
      have HM:=Hd (show ∀ u : World,Below w3.heap.size w3 u → Calls Tryz.prog 26 #[.agg #[.int .i64 YA,.int .i64 YB,.bool YP.s,(.slice a0y n0y d0y),(.slice a1y n1y d1y),.bool YQ.s,(.slice a2y n2y d2y),(.slice a3y n3y d3y),.bool YR.s,(.slice a4y n4y d4y),(.slice a5y n5y d5y)],.agg #[.int .i64 ZA,.int .i64 ZB,.bool ZP.s,(.slice a0 n0 d0),(.slice a1 n1 d1),.bool ZQ.s,(.slice a2 n2 d2),(.slice a3 n3 d3),.bool ZR.s,(.slice a4 n4 d4),(.slice a5 n5 d5)]] u (OwnM NA NB NP NQ NR NE ok u) from fun u hu=>by
      have h:=mergeLinks_s YA YB YP YQ YR (.slice a0y n0y d0y) (.slice a1y n1y d1y) (.slice a2y n2y d2y) (.slice a3y n3y d3y) (.slice a4y n4y d4y) (.slice a5y n5y d5y) ZA ZB ZP ZQ ZR (.slice a0 n0 d0) (.slice a1 n1 d1) (.slice a2 n2 d2) (.slice a3 n3 d3) (.slice a4 n4 d4) (.slice a5 n5 d5) u (dO.out.below hu) (HL3.out.below hu)
      rw [mg_mw eG.out HOK.out HSM.out.1 HSM.out.2] at h
      unfold OwnMG at h
      rw [hhok,hhNA,hhNB,hhNP,hhNQ,hhNR,hhNE] at h
      exact h)
      have Hokok:=Hd hhok
      clear hhok
      have HNANA:=Hd hhNA
      clear hhNA
      have HNBNB:=Hd hhNB
      clear hhNB
      have HNPNP:=Hd hhNP
      clear hhNP
      have HNQNQ:=Hd hhNQ
      clear hhNQ
      have HNRNR:=Hd hhNR
      clear hhNR
      have HNENE:=Hd hhNE
      clear hhNE
      go_upto_region 8 with fail
      go_cut [9,10,11] (fun p9 p10 q11 wx=>∃ b9 b10 aL aM aN aO aP aQ aR aS aT aU aV aW aX aY aZ a6 a7 a8 aE aF aG aH aI aJ,p9 = .pointer (some ⟨b9,0,none⟩) ∧ p10 = .pointer (some ⟨b10,0,none⟩) ∧ q11 = .bool ok ∧ St w3 wx [(b9,[.int .i64 NA,.int .i64 NB,.bool NP.s,(.slice aL aM aN),(.slice aO aP aQ),.bool NQ.s,(.slice aR aS aT),(.slice aU aV aW),.bool NR.s,(.slice aX aY aZ),(.slice a6 a7 a8)]),(b10,[.bool NE.s,(.slice aE aF aG),(.slice aH aI aJ)])] [(rowsK NP NQ NR (.slice aL aM aN) (.slice aO aP aQ) (.slice aR aS aT) (.slice aU aV aW) (.slice aX aY aZ) (.slice a6 a7 a8) ++ [((.slice aE aF aG),ints NE.xs),((.slice aH aI aJ),ints NE.ys)])])
      case first=>
       refine wp_region_noPanic ?_
       refine wp_region_held_drew (S:=(fun w' =>w'.cell? ⟨bl,0,none⟩ = some (.int .i64 ZA) ∧ w'.cell? ⟨bl,1,none⟩ = some (.int .i64 ZB) ∧ w'.cell? ⟨bl,2,none⟩ = some (.bool ZP.s) ∧ w'.cell? ⟨bl,3,none⟩ = some ((.slice a0 n0 d0)) ∧ w'.cell? ⟨bl,4,none⟩ = some ((.slice a1 n1 d1)) ∧ w'.cell? ⟨bl,5,none⟩ = some (.bool ZQ.s) ∧ w'.cell? ⟨bl,6,none⟩ = some ((.slice a2 n2 d2)) ∧ w'.cell? ⟨bl,7,none⟩ = some ((.slice a3 n3 d3)) ∧ w'.cell? ⟨bl,8,none⟩ = some (.bool ZR.s) ∧ w'.cell? ⟨bl,9,none⟩ = some ((.slice a4 n4 d4)) ∧ w'.cell? ⟨bl,10,none⟩ = some ((.slice a5 n5 d5)) ∧ w'.cell? ⟨g,o + k * 11,none⟩ = some (.int .i64 YA) ∧ w'.cell? ⟨g,o + k * 11 + 1,none⟩ = some (.int .i64 YB) ∧ w'.cell? ⟨g,o + k * 11 + 2,none⟩ = some (.bool YP.s) ∧ w'.cell? ⟨g,o + k * 11 + 3,none⟩ = some ((.slice a0y n0y d0y)) ∧ w'.cell? ⟨g,o + k * 11 + 4,none⟩ = some ((.slice a1y n1y d1y)) ∧ w'.cell? ⟨g,o + k * 11 + 5,none⟩ = some (.bool YQ.s) ∧ w'.cell? ⟨g,o + k * 11 + 6,none⟩ = some ((.slice a2y n2y d2y)) ∧ w'.cell? ⟨g,o + k * 11 + 7,none⟩ = some ((.slice a3y n3y d3y)) ∧ w'.cell? ⟨g,o + k * 11 + 8,none⟩ = some (.bool YR.s) ∧ w'.cell? ⟨g,o + k * 11 + 9,none⟩ = some ((.slice a4y n4y d4y)) ∧ w'.cell? ⟨g,o + k * 11 + 10,none⟩ = some ((.slice a5y n5y d5y)))) (by kernel_rfl) ?_ (fun bD=>?_)
       ·exact (bd11 bC.out.drew.below hll3 l0 l1 l2 l3 l4 l5 l6 l7 l8 l9 l10 (bc11 bC.out.drew.below hg c0 c1 c2 c3 c4 c5 c6 c7 c8 c9 c10))
       have dF:=Hd bC.out.drew
       clear bC
       generalize hwd : World.drew _ = wd at dF bD ⊢
       clear hwd
       refine tI 0 rfl ?_ ?_ ?_
       rotate_left
       ·intro w9 aA; (try dsimp only at aA); go_simp; try with_reducible rfl
       try simp only [pm,s0,sS]
       refine tI 1 rfl ?_ ?_ ?_
       rotate_left
       ·intro w9 aA; (try dsimp only at aA); go_simp; try with_reducible rfl
       try simp only [pm,s0,sS]
       refine tI 2 rfl ?_ ?_ ?_
       rotate_left
       ·intro w9 aA; (try dsimp only at aA); go_simp; try with_reducible rfl
       try simp only [pm,s0,sS]
       refine tI 3 rfl ?_ ?_ ?_
       rotate_left
       ·intro w9 aA; (try dsimp only at aA); go_simp; try with_reducible rfl
       try simp only [pm,s0,sS]
       refine tI 4 rfl ?_ ?_ ?_
       rotate_left
       ·intro w9 aA; (try dsimp only at aA); go_simp; try with_reducible rfl
       try simp only [pm,s0,sS]
       refine wpAnyH_ready (rs:=[5,10,11]) (by kernel_rfl) (by simp) ?_
       refine ac rfl (fun K hK=>?_) ?_
       ·go_simp
        go_at_call 26
        refine (HM.out _ (dF.out.below)).mono ?_
        rintro e w6 ⟨cW,cX,cY,cZ,dA,dB,dC,dD,rfl,ho,hb⟩
        obtain ⟨aL,aM,aN,rfl⟩:=(ho.at_ 0 rfl).shape3
        obtain ⟨aO,aP,aQ,rfl⟩:=(ho.at_ 1 rfl).shape3
        obtain ⟨aR,aS,aT,rfl⟩:=(ho.at_ 2 rfl).shape3
        obtain ⟨aU,aV,aW,rfl⟩:=(ho.at_ 3 rfl).shape3
        obtain ⟨aX,aY,aZ,rfl⟩:=(ho.at_ 4 rfl).shape3
        obtain ⟨a6,a7,a8,rfl⟩:=(ho.at_ 5 rfl).shape3
        obtain ⟨aE,aF,aG,rfl⟩:=(ho.at_ 6 rfl).shape3
        obtain ⟨aH,aI,aJ,rfl⟩:=(ho.at_ 7 rfl).shape3
        have a9:=Hd (dF.out.rows ho hb)
        clear dF ho hb
        refine hK.out _ _ (bd11 a9.out.below hll3 l0 l1 l2 l3 l4 l5 l6 l7 l8 l9 l10 (bc11 a9.out.below hg c0 c1 c2 c3 c4 c5 c6 c7 c8 c9 c10)) (fun bJ=>?_)
        clear hK K
        try simp only [pm,s0,sS]
        refine tI 6 rfl ?_ ?_ ?_
        rotate_left
        ·intro w9 aA; (try dsimp only at aA); go_simp; try with_reducible rfl
        try simp only [pm,s0,sS]
        refine tI 7 rfl ?_ ?_ ?_
        rotate_left
        ·intro w9 aA; (try dsimp only at aA); go_simp; try with_reducible rfl
        try simp only [pm,s0,sS]
        refine tI 8 rfl ?_ ?_ ?_
        rotate_left
        ·intro w9 aA; (try dsimp only at aA); go_simp; try with_reducible rfl
        try simp only [pm,s0,sS]
        refine tI 9 rfl ?_ ?_ ?_
        rotate_left
        ·intro w9 aA; (try dsimp only at aA); go_simp; try with_reducible rfl
        try simp only [pm,s0,sS]
        refine wpAnyH_ready (rs:=[10,11]) (by kernel_rfl) (by simp) ?_
        refine ac rfl (fun K hK=>?_) ?_
        ·go_simp
         have aD:=Hd (a9.out.allocE [.int .i64 0,.int .i64 0,.bool false,.slice none 0 0,.slice none 0 0,.bool false,.slice none 0 0,.slice none 0 0,.bool false,.slice none 0 0,.slice none 0 0] 40)
         clear a9
         generalize hwa : World.alloc _ _ = wa10 at aD ⊢
         clear hwa
         refine hK.out _ _ (bd11 aD.out.below hll3 l0 l1 l2 l3 l4 l5 l6 l7 l8 l9 l10 (bc11 aD.out.below hg c0 c1 c2 c3 c4 c5 c6 c7 c8 c9 c10)) (fun bB=>?_)
         clear hK K
         try simp only [pm,s0,sS]
         refine wpAnyH_ready (rs:=[11]) (by kernel_rfl) (by simp) ?_
         refine ac rfl (fun K hK=>?_) AllReadyH.nil
         go_simp
         have aC:=Hd (aD.out.allocE [.bool false,.slice none 0 0,.slice none 0 0] 35)
         clear aD
         generalize hwa : World.alloc _ _ = wa11 at aC ⊢
         clear hwa
         refine hK.out _ _ (bd11 aC.out.below hll3 l0 l1 l2 l3 l4 l5 l6 l7 l8 l9 l10 (bc11 aC.out.below hg c0 c1 c2 c3 c4 c5 c6 c7 c8 c9 c10)) (fun bH=>?_)
         clear hK K
         try simp only [pm,s0,sS]
         refine wpAnyH_ready (rs:=[12]) (by kernel_rfl) (by simp) ?_
         refine ac rfl (fun K hK=>?_) AllReadyH.nil
         rw [if_pos (by rfl)]
         refine wp_store_mid _ _ _ rfl _ _ (List.toArray [.int .i64 NA,.int .i64 NB,.bool NP.s,(.slice aL aM aN),(.slice aO aP aQ),.bool NQ.s,(.slice aR aS aT),(.slice aU aV aW),.bool NR.s,(.slice aX aY aZ),(.slice a6 a7 a8)]) rfl rfl (aC.out.there_ 0 rfl rfl) (size_link) (all_oneCell_toArray (cs:=[.int .i64 NA,.int .i64 NB,.bool NP.s,(.slice aL aM aN),(.slice aO aP aQ),.bool NQ.s,(.slice aR aS aT),(.slice aU aV aW),.bool NR.s,(.slice aX aY aZ),(.slice a6 a7 a8)]) (List.all_eq_true.mp rfl)) ?_
         simp only [Act.put]
         have aB:=Hd (aC.out.setKit 0 [.int .i64 NA,.int .i64 NB,.bool NP.s,(.slice aL aM aN),(.slice aO aP aQ),.bool NQ.s,(.slice aR aS aT),(.slice aU aV aW),.bool NR.s,(.slice aX aY aZ),(.slice a6 a7 a8)] rfl rfl)
         clear aC
         generalize hwq : World.setCells _ _ _ _ = wq12 at aB ⊢
         clear hwq
         refine hK.out _ _ (bd11 aB.out.below hll3 l0 l1 l2 l3 l4 l5 l6 l7 l8 l9 l10 (bc11 aB.out.below hg c0 c1 c2 c3 c4 c5 c6 c7 c8 c9 c10)) (fun bF=>?_)
         clear hK K
         try simp only [pm,s0,sS]
         refine wpAnyH_ready (rs:=[13]) (by kernel_rfl) (by simp) ?_
         refine ac rfl (fun K hK=>?_) AllReadyH.nil
         rw [if_pos (by rfl)]
         refine wp_store_mid _ _ _ rfl _ _ (List.toArray [.bool NE.s,(.slice aE aF aG),(.slice aH aI aJ)]) rfl rfl (aB.out.there_ 1 rfl rfl) (size_rat) (all_oneCell_toArray (cs:=[.bool NE.s,(.slice aE aF aG),(.slice aH aI aJ)]) (List.all_eq_true.mp rfl)) ?_
         simp only [Act.put]
         have aK:=Hd (aB.out.setKit 1 [.bool NE.s,(.slice aE aF aG),(.slice aH aI aJ)] rfl rfl)
         clear aB
         generalize hwq : World.setCells _ _ _ _ = wq13 at aK ⊢
         clear hwq
         refine hK.out _ _ (bd11 aK.out.below hll3 l0 l1 l2 l3 l4 l5 l6 l7 l8 l9 l10 (bc11 aK.out.below hg c0 c1 c2 c3 c4 c5 c6 c7 c8 c9 c10)) (fun bG=>?_)
         clear hK K
         try simp only [pm,s0,sS]
         refine tI 14 rfl ?_ ?_ ?_
         rotate_left
         ·intro w9 aA; (try dsimp only at aA); go_simp; try with_reducible rfl
         try simp only [pm,s0,sS]
         refine wpAnyH_done (by kernel_rfl) ?_ _
         refine NoPanic.normal ?_
         go_wp2_with fail
         go_meet
         refine ⟨_,_,aL,aM,aN,aO,aP,aQ,aR,aS,aT,aU,aV,aW,aX,aY,aZ,a6,a7,a8,aE,aF,aG,aH,aI,aJ,rfl,rfl,rfl,?_⟩
         exact aK.out
        refine ac rfl (fun K hK=>?_) ?_
        ·go_simp
         have aD:=Hd (a9.out.allocE [.bool false,.slice none 0 0,.slice none 0 0] 35)
         clear a9
         generalize hwa : World.alloc _ _ = wa11 at aD ⊢
         clear hwa
         refine hK.out _ _ (bd11 aD.out.below hll3 l0 l1 l2 l3 l4 l5 l6 l7 l8 l9 l10 (bc11 aD.out.below hg c0 c1 c2 c3 c4 c5 c6 c7 c8 c9 c10)) (fun bH=>?_)
         clear hK K
         try simp only [pm,s0,sS]
         refine wpAnyH_ready (rs:=[10]) (by kernel_rfl) (by simp) ?_
         refine ac rfl (fun K hK=>?_) AllReadyH.nil
         go_simp
         have aC:=Hd (aD.out.allocE [.int .i64 0,.int .i64 0,.bool false,.slice none 0 0,.slice none 0 0,.bool false,.slice none 0 0,.slice none 0 0,.bool false,.slice none 0 0,.slice none 0 0] 40)
         clear aD
         generalize hwa : World.alloc _ _ = wa10 at aC ⊢
         clear hwa
         refine hK.out _ _ (bd11 aC.out.below hll3 l0 l1 l2 l3 l4 l5 l6 l7 l8 l9 l10 (bc11 aC.out.below hg c0 c1 c2 c3 c4 c5 c6 c7 c8 c9 c10)) (fun bB=>?_)
         clear hK K
         try simp only [pm,s0,sS]
         refine wpAnyH_ready (rs:=[12]) (by kernel_rfl) (by simp) ?_
         refine ac rfl (fun K hK=>?_) AllReadyH.nil
         rw [if_pos (by rfl)]
         refine wp_store_mid _ _ _ rfl _ _ (List.toArray [.int .i64 NA,.int .i64 NB,.bool NP.s,(.slice aL aM aN),(.slice aO aP aQ),.bool NQ.s,(.slice aR aS aT),(.slice aU aV aW),.bool NR.s,(.slice aX aY aZ),(.slice a6 a7 a8)]) rfl rfl (aC.out.there_ 1 rfl rfl) (size_link) (all_oneCell_toArray (cs:=[.int .i64 NA,.int .i64 NB,.bool NP.s,(.slice aL aM aN),(.slice aO aP aQ),.bool NQ.s,(.slice aR aS aT),(.slice aU aV aW),.bool NR.s,(.slice aX aY aZ),(.slice a6 a7 a8)]) (List.all_eq_true.mp rfl)) ?_
         simp only [Act.put]
         have aB:=Hd (aC.out.setKit 1 [.int .i64 NA,.int .i64 NB,.bool NP.s,(.slice aL aM aN),(.slice aO aP aQ),.bool NQ.s,(.slice aR aS aT),(.slice aU aV aW),.bool NR.s,(.slice aX aY aZ),(.slice a6 a7 a8)] rfl rfl)
         clear aC
         generalize hwq : World.setCells _ _ _ _ = wq12 at aB ⊢
         clear hwq
         refine hK.out _ _ (bd11 aB.out.below hll3 l0 l1 l2 l3 l4 l5 l6 l7 l8 l9 l10 (bc11 aB.out.below hg c0 c1 c2 c3 c4 c5 c6 c7 c8 c9 c10)) (fun bF=>?_)
         clear hK K
         try simp only [pm,s0,sS]
         refine wpAnyH_ready (rs:=[13]) (by kernel_rfl) (by simp) ?_
         refine ac rfl (fun K hK=>?_) AllReadyH.nil
         rw [if_pos (by rfl)]
         refine wp_store_mid _ _ _ rfl _ _ (List.toArray [.bool NE.s,(.slice aE aF aG),(.slice aH aI aJ)]) rfl rfl (aB.out.there_ 0 rfl rfl) (size_rat) (all_oneCell_toArray (cs:=[.bool NE.s,(.slice aE aF aG),(.slice aH aI aJ)]) (List.all_eq_true.mp rfl)) ?_
         simp only [Act.put]
         have aK:=Hd (aB.out.setKit 0 [.bool NE.s,(.slice aE aF aG),(.slice aH aI aJ)] rfl rfl)
         clear aB
         generalize hwq : World.setCells _ _ _ _ = wq13 at aK ⊢
         clear hwq
         refine hK.out _ _ (bd11 aK.out.below hll3 l0 l1 l2 l3 l4 l5 l6 l7 l8 l9 l10 (bc11 aK.out.below hg c0 c1 c2 c3 c4 c5 c6 c7 c8 c9 c10)) (fun bG=>?_)
         clear hK K
         try simp only [pm,s0,sS]
         refine tI 14 rfl ?_ ?_ ?_
         rotate_left
         ·intro w9 aA; (try dsimp only at aA); go_simp; try with_reducible rfl
         try simp only [pm,s0,sS]
         refine wpAnyH_done (by kernel_rfl) ?_ _
         refine NoPanic.normal ?_
         go_wp2_with fail
         go_meet
         refine ⟨_,_,aL,aM,aN,aO,aP,aQ,aR,aS,aT,aU,aV,aW,aX,aY,aZ,a6,a7,a8,aE,aF,aG,aH,aI,aJ,rfl,rfl,rfl,?_⟩
         exact (aK.out).perm (.swap _ _ _) (.refl _)
        exact AllReadyH.nil
       refine ac rfl (fun K hK=>?_) ?_
       ·go_simp
        have a9:=Hd (dF.out.allocE [.int .i64 0,.int .i64 0,.bool false,.slice none 0 0,.slice none 0 0,.bool false,.slice none 0 0,.slice none 0 0,.bool false,.slice none 0 0,.slice none 0 0] 40)
        clear dF
        generalize hwa : World.alloc _ _ = wa10 at a9 ⊢
        clear hwa
        refine hK.out _ _ (bd11 a9.out.below hll3 l0 l1 l2 l3 l4 l5 l6 l7 l8 l9 l10 (bc11 a9.out.below hg c0 c1 c2 c3 c4 c5 c6 c7 c8 c9 c10)) (fun bB=>?_)
        clear hK K
        try simp only [pm,s0,sS]
        refine wpAnyH_ready (rs:=[5,11]) (by kernel_rfl) (by simp) ?_
        refine ac rfl (fun K hK=>?_) ?_
        ·go_simp
         go_at_call 26
         refine (HM.out _ (a9.out.below)).mono ?_
         rintro e w6 ⟨cW,cX,cY,cZ,dA,dB,dC,dD,rfl,ho,hb⟩
         obtain ⟨aL,aM,aN,rfl⟩:=(ho.at_ 0 rfl).shape3
         obtain ⟨aO,aP,aQ,rfl⟩:=(ho.at_ 1 rfl).shape3
         obtain ⟨aR,aS,aT,rfl⟩:=(ho.at_ 2 rfl).shape3
         obtain ⟨aU,aV,aW,rfl⟩:=(ho.at_ 3 rfl).shape3
         obtain ⟨aX,aY,aZ,rfl⟩:=(ho.at_ 4 rfl).shape3
         obtain ⟨a6,a7,a8,rfl⟩:=(ho.at_ 5 rfl).shape3
         obtain ⟨aE,aF,aG,rfl⟩:=(ho.at_ 6 rfl).shape3
         obtain ⟨aH,aI,aJ,rfl⟩:=(ho.at_ 7 rfl).shape3
         have aD:=Hd (a9.out.rows ho hb)
         clear a9 ho hb
         refine hK.out _ _ (bd11 aD.out.below hll3 l0 l1 l2 l3 l4 l5 l6 l7 l8 l9 l10 (bc11 aD.out.below hg c0 c1 c2 c3 c4 c5 c6 c7 c8 c9 c10)) (fun bJ=>?_)
         clear hK K
         try simp only [pm,s0,sS]
         refine tI 6 rfl ?_ ?_ ?_
         rotate_left
         ·intro w9 aA; (try dsimp only at aA); go_simp; try with_reducible rfl
         try simp only [pm,s0,sS]
         refine tI 7 rfl ?_ ?_ ?_
         rotate_left
         ·intro w9 aA; (try dsimp only at aA); go_simp; try with_reducible rfl
         try simp only [pm,s0,sS]
         refine tI 8 rfl ?_ ?_ ?_
         rotate_left
         ·intro w9 aA; (try dsimp only at aA); go_simp; try with_reducible rfl
         try simp only [pm,s0,sS]
         refine tI 9 rfl ?_ ?_ ?_
         rotate_left
         ·intro w9 aA; (try dsimp only at aA); go_simp; try with_reducible rfl
         try simp only [pm,s0,sS]
         refine wpAnyH_ready (rs:=[11]) (by kernel_rfl) (by simp) ?_
         refine ac rfl (fun K hK=>?_) AllReadyH.nil
         go_simp
         have aC:=Hd (aD.out.allocE [.bool false,.slice none 0 0,.slice none 0 0] 35)
         clear aD
         generalize hwa : World.alloc _ _ = wa11 at aC ⊢
         clear hwa
         refine hK.out _ _ (bd11 aC.out.below hll3 l0 l1 l2 l3 l4 l5 l6 l7 l8 l9 l10 (bc11 aC.out.below hg c0 c1 c2 c3 c4 c5 c6 c7 c8 c9 c10)) (fun bH=>?_)
         clear hK K
         try simp only [pm,s0,sS]
         refine wpAnyH_ready (rs:=[12]) (by kernel_rfl) (by simp) ?_
         refine ac rfl (fun K hK=>?_) AllReadyH.nil
         rw [if_pos (by rfl)]
         refine wp_store_mid _ _ _ rfl _ _ (List.toArray [.int .i64 NA,.int .i64 NB,.bool NP.s,(.slice aL aM aN),(.slice aO aP aQ),.bool NQ.s,(.slice aR aS aT),(.slice aU aV aW),.bool NR.s,(.slice aX aY aZ),(.slice a6 a7 a8)]) rfl rfl (aC.out.there_ 0 rfl rfl) (size_link) (all_oneCell_toArray (cs:=[.int .i64 NA,.int .i64 NB,.bool NP.s,(.slice aL aM aN),(.slice aO aP aQ),.bool NQ.s,(.slice aR aS aT),(.slice aU aV aW),.bool NR.s,(.slice aX aY aZ),(.slice a6 a7 a8)]) (List.all_eq_true.mp rfl)) ?_
         simp only [Act.put]
         have aB:=Hd (aC.out.setKit 0 [.int .i64 NA,.int .i64 NB,.bool NP.s,(.slice aL aM aN),(.slice aO aP aQ),.bool NQ.s,(.slice aR aS aT),(.slice aU aV aW),.bool NR.s,(.slice aX aY aZ),(.slice a6 a7 a8)] rfl rfl)
         clear aC
         generalize hwq : World.setCells _ _ _ _ = wq12 at aB ⊢
         clear hwq
         refine hK.out _ _ (bd11 aB.out.below hll3 l0 l1 l2 l3 l4 l5 l6 l7 l8 l9 l10 (bc11 aB.out.below hg c0 c1 c2 c3 c4 c5 c6 c7 c8 c9 c10)) (fun bF=>?_)
         clear hK K
         try simp only [pm,s0,sS]
         refine wpAnyH_ready (rs:=[13]) (by kernel_rfl) (by simp) ?_
         refine ac rfl (fun K hK=>?_) AllReadyH.nil
         rw [if_pos (by rfl)]
         refine wp_store_mid _ _ _ rfl _ _ (List.toArray [.bool NE.s,(.slice aE aF aG),(.slice aH aI aJ)]) rfl rfl (aB.out.there_ 1 rfl rfl) (size_rat) (all_oneCell_toArray (cs:=[.bool NE.s,(.slice aE aF aG),(.slice aH aI aJ)]) (List.all_eq_true.mp rfl)) ?_
         simp only [Act.put]
         have aK:=Hd (aB.out.setKit 1 [.bool NE.s,(.slice aE aF aG),(.slice aH aI aJ)] rfl rfl)
         clear aB
         generalize hwq : World.setCells _ _ _ _ = wq13 at aK ⊢
         clear hwq
         refine hK.out _ _ (bd11 aK.out.below hll3 l0 l1 l2 l3 l4 l5 l6 l7 l8 l9 l10 (bc11 aK.out.below hg c0 c1 c2 c3 c4 c5 c6 c7 c8 c9 c10)) (fun bG=>?_)
         clear hK K
         try simp only [pm,s0,sS]
         refine tI 14 rfl ?_ ?_ ?_
         rotate_left
         ·intro w9 aA; (try dsimp only at aA); go_simp; try with_reducible rfl
         try simp only [pm,s0,sS]
         refine wpAnyH_done (by kernel_rfl) ?_ _
         refine NoPanic.normal ?_
         go_wp2_with fail
         go_meet
         refine ⟨_,_,aL,aM,aN,aO,aP,aQ,aR,aS,aT,aU,aV,aW,aX,aY,aZ,a6,a7,a8,aE,aF,aG,aH,aI,aJ,rfl,rfl,rfl,?_⟩
         exact aK.out
        refine ac rfl (fun K hK=>?_) ?_
        ·go_simp
         have aD:=Hd (a9.out.allocE [.bool false,.slice none 0 0,.slice none 0 0] 35)
         clear a9
         generalize hwa : World.alloc _ _ = wa11 at aD ⊢
         clear hwa
         refine hK.out _ _ (bd11 aD.out.below hll3 l0 l1 l2 l3 l4 l5 l6 l7 l8 l9 l10 (bc11 aD.out.below hg c0 c1 c2 c3 c4 c5 c6 c7 c8 c9 c10)) (fun bH=>?_)
         clear hK K
         try simp only [pm,s0,sS]
         refine wpAnyH_ready (rs:=[5]) (by kernel_rfl) (by simp) ?_
         refine ac rfl (fun K hK=>?_) AllReadyH.nil
         go_simp
         go_at_call 26
         refine (HM.out _ (aD.out.below)).mono ?_
         rintro e w6 ⟨cW,cX,cY,cZ,dA,dB,dC,dD,rfl,ho,hb⟩
         obtain ⟨aL,aM,aN,rfl⟩:=(ho.at_ 0 rfl).shape3
         obtain ⟨aO,aP,aQ,rfl⟩:=(ho.at_ 1 rfl).shape3
         obtain ⟨aR,aS,aT,rfl⟩:=(ho.at_ 2 rfl).shape3
         obtain ⟨aU,aV,aW,rfl⟩:=(ho.at_ 3 rfl).shape3
         obtain ⟨aX,aY,aZ,rfl⟩:=(ho.at_ 4 rfl).shape3
         obtain ⟨a6,a7,a8,rfl⟩:=(ho.at_ 5 rfl).shape3
         obtain ⟨aE,aF,aG,rfl⟩:=(ho.at_ 6 rfl).shape3
         obtain ⟨aH,aI,aJ,rfl⟩:=(ho.at_ 7 rfl).shape3
         have aC:=Hd (aD.out.rows ho hb)
         clear aD ho hb
         refine hK.out _ _ (bd11 aC.out.below hll3 l0 l1 l2 l3 l4 l5 l6 l7 l8 l9 l10 (bc11 aC.out.below hg c0 c1 c2 c3 c4 c5 c6 c7 c8 c9 c10)) (fun bJ=>?_)
         clear hK K
         try simp only [pm,s0,sS]
         refine tI 6 rfl ?_ ?_ ?_
         rotate_left
         ·intro w9 aA; (try dsimp only at aA); go_simp; try with_reducible rfl
         try simp only [pm,s0,sS]
         refine tI 7 rfl ?_ ?_ ?_
         rotate_left
         ·intro w9 aA; (try dsimp only at aA); go_simp; try with_reducible rfl
         try simp only [pm,s0,sS]
         refine tI 8 rfl ?_ ?_ ?_
         rotate_left
         ·intro w9 aA; (try dsimp only at aA); go_simp; try with_reducible rfl
         try simp only [pm,s0,sS]
         refine tI 9 rfl ?_ ?_ ?_
         rotate_left
         ·intro w9 aA; (try dsimp only at aA); go_simp; try with_reducible rfl
         try simp only [pm,s0,sS]
         refine wpAnyH_ready (rs:=[12]) (by kernel_rfl) (by simp) ?_
         refine ac rfl (fun K hK=>?_) AllReadyH.nil
         rw [if_pos (by rfl)]
         refine wp_store_mid _ _ _ rfl _ _ (List.toArray [.int .i64 NA,.int .i64 NB,.bool NP.s,(.slice aL aM aN),(.slice aO aP aQ),.bool NQ.s,(.slice aR aS aT),(.slice aU aV aW),.bool NR.s,(.slice aX aY aZ),(.slice a6 a7 a8)]) rfl rfl (aC.out.there_ 0 rfl rfl) (size_link) (all_oneCell_toArray (cs:=[.int .i64 NA,.int .i64 NB,.bool NP.s,(.slice aL aM aN),(.slice aO aP aQ),.bool NQ.s,(.slice aR aS aT),(.slice aU aV aW),.bool NR.s,(.slice aX aY aZ),(.slice a6 a7 a8)]) (List.all_eq_true.mp rfl)) ?_
         simp only [Act.put]
         have aB:=Hd (aC.out.setKit 0 [.int .i64 NA,.int .i64 NB,.bool NP.s,(.slice aL aM aN),(.slice aO aP aQ),.bool NQ.s,(.slice aR aS aT),(.slice aU aV aW),.bool NR.s,(.slice aX aY aZ),(.slice a6 a7 a8)] rfl rfl)
         clear aC
         generalize hwq : World.setCells _ _ _ _ = wq12 at aB ⊢
         clear hwq
         refine hK.out _ _ (bd11 aB.out.below hll3 l0 l1 l2 l3 l4 l5 l6 l7 l8 l9 l10 (bc11 aB.out.below hg c0 c1 c2 c3 c4 c5 c6 c7 c8 c9 c10)) (fun bF=>?_)
         clear hK K
         try simp only [pm,s0,sS]
         refine wpAnyH_ready (rs:=[13]) (by kernel_rfl) (by simp) ?_
         refine ac rfl (fun K hK=>?_) AllReadyH.nil
         rw [if_pos (by rfl)]
         refine wp_store_mid _ _ _ rfl _ _ (List.toArray [.bool NE.s,(.slice aE aF aG),(.slice aH aI aJ)]) rfl rfl (aB.out.there_ 1 rfl rfl) (size_rat) (all_oneCell_toArray (cs:=[.bool NE.s,(.slice aE aF aG),(.slice aH aI aJ)]) (List.all_eq_true.mp rfl)) ?_
         simp only [Act.put]
         have aK:=Hd (aB.out.setKit 1 [.bool NE.s,(.slice aE aF aG),(.slice aH aI aJ)] rfl rfl)
         clear aB
         generalize hwq : World.setCells _ _ _ _ = wq13 at aK ⊢
         clear hwq
         refine hK.out _ _ (bd11 aK.out.below hll3 l0 l1 l2 l3 l4 l5 l6 l7 l8 l9 l10 (bc11 aK.out.below hg c0 c1 c2 c3 c4 c5 c6 c7 c8 c9 c10)) (fun bG=>?_)
         clear hK K
         try simp only [pm,s0,sS]
         refine tI 14 rfl ?_ ?_ ?_
         rotate_left
         ·intro w9 aA; (try dsimp only at aA); go_simp; try with_reducible rfl
         try simp only [pm,s0,sS]
         refine wpAnyH_done (by kernel_rfl) ?_ _
         refine NoPanic.normal ?_
         go_wp2_with fail
         go_meet
         refine ⟨_,_,aL,aM,aN,aO,aP,aQ,aR,aS,aT,aU,aV,aW,aX,aY,aZ,a6,a7,a8,aE,aF,aG,aH,aI,aJ,rfl,rfl,rfl,?_⟩
         exact aK.out
        exact AllReadyH.nil
       refine ac rfl (fun K hK=>?_) ?_
       ·go_simp
        have a9:=Hd (dF.out.allocE [.bool false,.slice none 0 0,.slice none 0 0] 35)
        clear dF
        generalize hwa : World.alloc _ _ = wa11 at a9 ⊢
        clear hwa
        refine hK.out _ _ (bd11 a9.out.below hll3 l0 l1 l2 l3 l4 l5 l6 l7 l8 l9 l10 (bc11 a9.out.below hg c0 c1 c2 c3 c4 c5 c6 c7 c8 c9 c10)) (fun bH=>?_)
        clear hK K
        try simp only [pm,s0,sS]
        refine wpAnyH_ready (rs:=[5,10]) (by kernel_rfl) (by simp) ?_
        refine ac rfl (fun K hK=>?_) ?_
        ·go_simp
         go_at_call 26
         refine (HM.out _ (a9.out.below)).mono ?_
         rintro e w6 ⟨cW,cX,cY,cZ,dA,dB,dC,dD,rfl,ho,hb⟩
         obtain ⟨aL,aM,aN,rfl⟩:=(ho.at_ 0 rfl).shape3
         obtain ⟨aO,aP,aQ,rfl⟩:=(ho.at_ 1 rfl).shape3
         obtain ⟨aR,aS,aT,rfl⟩:=(ho.at_ 2 rfl).shape3
         obtain ⟨aU,aV,aW,rfl⟩:=(ho.at_ 3 rfl).shape3
         obtain ⟨aX,aY,aZ,rfl⟩:=(ho.at_ 4 rfl).shape3
         obtain ⟨a6,a7,a8,rfl⟩:=(ho.at_ 5 rfl).shape3
         obtain ⟨aE,aF,aG,rfl⟩:=(ho.at_ 6 rfl).shape3
         obtain ⟨aH,aI,aJ,rfl⟩:=(ho.at_ 7 rfl).shape3
         have aD:=Hd (a9.out.rows ho hb)
         clear a9 ho hb
         refine hK.out _ _ (bd11 aD.out.below hll3 l0 l1 l2 l3 l4 l5 l6 l7 l8 l9 l10 (bc11 aD.out.below hg c0 c1 c2 c3 c4 c5 c6 c7 c8 c9 c10)) (fun bJ=>?_)
         clear hK K
         try simp only [pm,s0,sS]
         refine tI 6 rfl ?_ ?_ ?_
         rotate_left
         ·intro w9 aA; (try dsimp only at aA); go_simp; try with_reducible rfl
         try simp only [pm,s0,sS]
         refine tI 7 rfl ?_ ?_ ?_
         rotate_left
         ·intro w9 aA; (try dsimp only at aA); go_simp; try with_reducible rfl
         try simp only [pm,s0,sS]
         refine tI 8 rfl ?_ ?_ ?_
         rotate_left
         ·intro w9 aA; (try dsimp only at aA); go_simp; try with_reducible rfl
         try simp only [pm,s0,sS]
         refine tI 9 rfl ?_ ?_ ?_
         rotate_left
         ·intro w9 aA; (try dsimp only at aA); go_simp; try with_reducible rfl
         try simp only [pm,s0,sS]
         refine wpAnyH_ready (rs:=[10]) (by kernel_rfl) (by simp) ?_
         refine ac rfl (fun K hK=>?_) AllReadyH.nil
         go_simp
         have aC:=Hd (aD.out.allocE [.int .i64 0,.int .i64 0,.bool false,.slice none 0 0,.slice none 0 0,.bool false,.slice none 0 0,.slice none 0 0,.bool false,.slice none 0 0,.slice none 0 0] 40)
         clear aD
         generalize hwa : World.alloc _ _ = wa10 at aC ⊢
         clear hwa
         refine hK.out _ _ (bd11 aC.out.below hll3 l0 l1 l2 l3 l4 l5 l6 l7 l8 l9 l10 (bc11 aC.out.below hg c0 c1 c2 c3 c4 c5 c6 c7 c8 c9 c10)) (fun bB=>?_)
         clear hK K
         try simp only [pm,s0,sS]
         refine wpAnyH_ready (rs:=[12]) (by kernel_rfl) (by simp) ?_
         refine ac rfl (fun K hK=>?_) AllReadyH.nil
         rw [if_pos (by rfl)]
         refine wp_store_mid _ _ _ rfl _ _ (List.toArray [.int .i64 NA,.int .i64 NB,.bool NP.s,(.slice aL aM aN),(.slice aO aP aQ),.bool NQ.s,(.slice aR aS aT),(.slice aU aV aW),.bool NR.s,(.slice aX aY aZ),(.slice a6 a7 a8)]) rfl rfl (aC.out.there_ 1 rfl rfl) (size_link) (all_oneCell_toArray (cs:=[.int .i64 NA,.int .i64 NB,.bool NP.s,(.slice aL aM aN),(.slice aO aP aQ),.bool NQ.s,(.slice aR aS aT),(.slice aU aV aW),.bool NR.s,(.slice aX aY aZ),(.slice a6 a7 a8)]) (List.all_eq_true.mp rfl)) ?_
         simp only [Act.put]
         have aB:=Hd (aC.out.setKit 1 [.int .i64 NA,.int .i64 NB,.bool NP.s,(.slice aL aM aN),(.slice aO aP aQ),.bool NQ.s,(.slice aR aS aT),(.slice aU aV aW),.bool NR.s,(.slice aX aY aZ),(.slice a6 a7 a8)] rfl rfl)
         clear aC
         generalize hwq : World.setCells _ _ _ _ = wq12 at aB ⊢
         clear hwq
         refine hK.out _ _ (bd11 aB.out.below hll3 l0 l1 l2 l3 l4 l5 l6 l7 l8 l9 l10 (bc11 aB.out.below hg c0 c1 c2 c3 c4 c5 c6 c7 c8 c9 c10)) (fun bF=>?_)
         clear hK K
         try simp only [pm,s0,sS]
         refine wpAnyH_ready (rs:=[13]) (by kernel_rfl) (by simp) ?_
         refine ac rfl (fun K hK=>?_) AllReadyH.nil
         rw [if_pos (by rfl)]
         refine wp_store_mid _ _ _ rfl _ _ (List.toArray [.bool NE.s,(.slice aE aF aG),(.slice aH aI aJ)]) rfl rfl (aB.out.there_ 0 rfl rfl) (size_rat) (all_oneCell_toArray (cs:=[.bool NE.s,(.slice aE aF aG),(.slice aH aI aJ)]) (List.all_eq_true.mp rfl)) ?_
         simp only [Act.put]
         have aK:=Hd (aB.out.setKit 0 [.bool NE.s,(.slice aE aF aG),(.slice aH aI aJ)] rfl rfl)
         clear aB
         generalize hwq : World.setCells _ _ _ _ = wq13 at aK ⊢
         clear hwq
         refine hK.out _ _ (bd11 aK.out.below hll3 l0 l1 l2 l3 l4 l5 l6 l7 l8 l9 l10 (bc11 aK.out.below hg c0 c1 c2 c3 c4 c5 c6 c7 c8 c9 c10)) (fun bG=>?_)
         clear hK K
         try simp only [pm,s0,sS]
         refine tI 14 rfl ?_ ?_ ?_
         rotate_left
         ·intro w9 aA; (try dsimp only at aA); go_simp; try with_reducible rfl
         try simp only [pm,s0,sS]
         refine wpAnyH_done (by kernel_rfl) ?_ _
         refine NoPanic.normal ?_
         go_wp2_with fail
         go_meet
         refine ⟨_,_,aL,aM,aN,aO,aP,aQ,aR,aS,aT,aU,aV,aW,aX,aY,aZ,a6,a7,a8,aE,aF,aG,aH,aI,aJ,rfl,rfl,rfl,?_⟩
         exact (aK.out).perm (.swap _ _ _) (.refl _)
        refine ac rfl (fun K hK=>?_) ?_
        ·go_simp
         have aD:=Hd (a9.out.allocE [.int .i64 0,.int .i64 0,.bool false,.slice none 0 0,.slice none 0 0,.bool false,.slice none 0 0,.slice none 0 0,.bool false,.slice none 0 0,.slice none 0 0] 40)
         clear a9
         generalize hwa : World.alloc _ _ = wa10 at aD ⊢
         clear hwa
         refine hK.out _ _ (bd11 aD.out.below hll3 l0 l1 l2 l3 l4 l5 l6 l7 l8 l9 l10 (bc11 aD.out.below hg c0 c1 c2 c3 c4 c5 c6 c7 c8 c9 c10)) (fun bB=>?_)
         clear hK K
         try simp only [pm,s0,sS]
         refine wpAnyH_ready (rs:=[5]) (by kernel_rfl) (by simp) ?_
         refine ac rfl (fun K hK=>?_) AllReadyH.nil
         go_simp
         go_at_call 26
         refine (HM.out _ (aD.out.below)).mono ?_
         rintro e w6 ⟨cW,cX,cY,cZ,dA,dB,dC,dD,rfl,ho,hb⟩
         obtain ⟨aL,aM,aN,rfl⟩:=(ho.at_ 0 rfl).shape3
         obtain ⟨aO,aP,aQ,rfl⟩:=(ho.at_ 1 rfl).shape3
         obtain ⟨aR,aS,aT,rfl⟩:=(ho.at_ 2 rfl).shape3
         obtain ⟨aU,aV,aW,rfl⟩:=(ho.at_ 3 rfl).shape3
         obtain ⟨aX,aY,aZ,rfl⟩:=(ho.at_ 4 rfl).shape3
         obtain ⟨a6,a7,a8,rfl⟩:=(ho.at_ 5 rfl).shape3
         obtain ⟨aE,aF,aG,rfl⟩:=(ho.at_ 6 rfl).shape3
         obtain ⟨aH,aI,aJ,rfl⟩:=(ho.at_ 7 rfl).shape3
         have aC:=Hd (aD.out.rows ho hb)
         clear aD ho hb
         refine hK.out _ _ (bd11 aC.out.below hll3 l0 l1 l2 l3 l4 l5 l6 l7 l8 l9 l10 (bc11 aC.out.below hg c0 c1 c2 c3 c4 c5 c6 c7 c8 c9 c10)) (fun bJ=>?_)
         clear hK K
         try simp only [pm,s0,sS]
         refine tI 6 rfl ?_ ?_ ?_
         rotate_left
         ·intro w9 aA; (try dsimp only at aA); go_simp; try with_reducible rfl
         try simp only [pm,s0,sS]
         refine tI 7 rfl ?_ ?_ ?_
         rotate_left
         ·intro w9 aA; (try dsimp only at aA); go_simp; try with_reducible rfl
         try simp only [pm,s0,sS]
         refine tI 8 rfl ?_ ?_ ?_
         rotate_left
         ·intro w9 aA; (try dsimp only at aA); go_simp; try with_reducible rfl
         try simp only [pm,s0,sS]
         refine tI 9 rfl ?_ ?_ ?_
         rotate_left
         ·intro w9 aA; (try dsimp only at aA); go_simp; try with_reducible rfl
         try simp only [pm,s0,sS]
         refine wpAnyH_ready (rs:=[12]) (by kernel_rfl) (by simp) ?_
         refine ac rfl (fun K hK=>?_) AllReadyH.nil
         rw [if_pos (by rfl)]
         refine wp_store_mid _ _ _ rfl _ _ (List.toArray [.int .i64 NA,.int .i64 NB,.bool NP.s,(.slice aL aM aN),(.slice aO aP aQ),.bool NQ.s,(.slice aR aS aT),(.slice aU aV aW),.bool NR.s,(.slice aX aY aZ),(.slice a6 a7 a8)]) rfl rfl (aC.out.there_ 1 rfl rfl) (size_link) (all_oneCell_toArray (cs:=[.int .i64 NA,.int .i64 NB,.bool NP.s,(.slice aL aM aN),(.slice aO aP aQ),.bool NQ.s,(.slice aR aS aT),(.slice aU aV aW),.bool NR.s,(.slice aX aY aZ),(.slice a6 a7 a8)]) (List.all_eq_true.mp rfl)) ?_
         simp only [Act.put]
         have aB:=Hd (aC.out.setKit 1 [.int .i64 NA,.int .i64 NB,.bool NP.s,(.slice aL aM aN),(.slice aO aP aQ),.bool NQ.s,(.slice aR aS aT),(.slice aU aV aW),.bool NR.s,(.slice aX aY aZ),(.slice a6 a7 a8)] rfl rfl)
         clear aC
         generalize hwq : World.setCells _ _ _ _ = wq12 at aB ⊢
         clear hwq
         refine hK.out _ _ (bd11 aB.out.below hll3 l0 l1 l2 l3 l4 l5 l6 l7 l8 l9 l10 (bc11 aB.out.below hg c0 c1 c2 c3 c4 c5 c6 c7 c8 c9 c10)) (fun bF=>?_)
         clear hK K
         try simp only [pm,s0,sS]
         refine wpAnyH_ready (rs:=[13]) (by kernel_rfl) (by simp) ?_
         refine ac rfl (fun K hK=>?_) AllReadyH.nil
         rw [if_pos (by rfl)]
         refine wp_store_mid _ _ _ rfl _ _ (List.toArray [.bool NE.s,(.slice aE aF aG),(.slice aH aI aJ)]) rfl rfl (aB.out.there_ 0 rfl rfl) (size_rat) (all_oneCell_toArray (cs:=[.bool NE.s,(.slice aE aF aG),(.slice aH aI aJ)]) (List.all_eq_true.mp rfl)) ?_
         simp only [Act.put]
         have aK:=Hd (aB.out.setKit 0 [.bool NE.s,(.slice aE aF aG),(.slice aH aI aJ)] rfl rfl)
         clear aB
         generalize hwq : World.setCells _ _ _ _ = wq13 at aK ⊢
         clear hwq
         refine hK.out _ _ (bd11 aK.out.below hll3 l0 l1 l2 l3 l4 l5 l6 l7 l8 l9 l10 (bc11 aK.out.below hg c0 c1 c2 c3 c4 c5 c6 c7 c8 c9 c10)) (fun bG=>?_)
         clear hK K
         try simp only [pm,s0,sS]
         refine tI 14 rfl ?_ ?_ ?_
         rotate_left
         ·intro w9 aA; (try dsimp only at aA); go_simp; try with_reducible rfl
         try simp only [pm,s0,sS]
         refine wpAnyH_done (by kernel_rfl) ?_ _
         refine NoPanic.normal ?_
         go_wp2_with fail
         go_meet
         refine ⟨_,_,aL,aM,aN,aO,aP,aQ,aR,aS,aT,aU,aV,aW,aX,aY,aZ,a6,a7,a8,aE,aF,aG,aH,aI,aJ,rfl,rfl,rfl,?_⟩
         exact (aK.out).perm (.swap _ _ _) (.refl _)
        exact AllReadyH.nil
       exact AllReadyH.nil
      obtain ⟨b9,b10,aL,aM,aN,aO,aP,aQ,aR,aS,aT,aU,aV,aW,aX,aY,aZ,a6,a7,a8,aE,aF,aG,aH,aI,aJ,rfl,rfl,rfl,hst⟩:=hcut
      have bA:=Hd hst
      clear hst bC
      have hge_9:=bA.out.ge 0 rfl
      have hge_10:=bA.out.ge 1 rfl
      have cS : be ≠ b10:=by omega
      clear HM c0 c1 c2 c3 c4 c5 c6 c7 c8 c9 c10
      have eE:=Hd (d8.out.after bA.out.below)
      have HW0 : w.heap.size ≤ be:=hge_e
      cases ok with
      | false=>
       obtain ⟨z0,fz0,z1,fz1,z2,fz2⟩:=eE.out.g3
       go_wp2
       exact bodyPost_ret (v:=.tuple #[.slice none 0 0,.agg #[.bool false,.slice none 0 0,.slice none 0 0],.bool false]) (by simp [results,Tryz.results7,go_sem,z0,z1,z2]) rfl (by rw [HANS.out,HE1.out,if_neg (by rw [Hokok.out]; decide)]; exact ⟨rfl,below_setCells [.bool false,.slice none 0 0,.slice none 0 0] 0 HW0 (HBB.out.trans (bA.out.below.mono HBB.out.size))⟩)
      | true=>
       have GC:=Hd (G_3.out.call bA.out.below)
       have hfz : ∀ j : Nat,wc.frozen? ⟨g,o + k * 11 + j,none⟩ = false:=fun j=>by
        have h0:=HO0.out
        subst h0
        have h:=GC.out.own.frozenAt (k * 11 + j)
        simpa using h
       have z0 : wc.cell? ⟨g,o + k * 11,none⟩ = some (.int .i64 YA):=(bA.out.below.cell (p:=⟨g,o + k * 11,none⟩) hg).trans (HC.out 0 _ rfl)
       have fz0 : wc.frozen? ⟨g,o + k * 11,none⟩ = false:=hfz 0
       have z1 : wc.cell? ⟨g,o + k * 11 + 1,none⟩ = some (.int .i64 YB):=(bA.out.below.cell (p:=⟨g,o + k * 11 + 1,none⟩) hg).trans (HC.out 1 _ rfl)
       have fz1 : wc.frozen? ⟨g,o + k * 11 + 1,none⟩ = false:=hfz 1
       have z2 : wc.cell? ⟨g,o + k * 11 + 2,none⟩ = some (.bool YP.s):=(bA.out.below.cell (p:=⟨g,o + k * 11 + 2,none⟩) hg).trans (HC.out 2 _ rfl)
       have fz2 : wc.frozen? ⟨g,o + k * 11 + 2,none⟩ = false:=hfz 2
       have z3 : wc.cell? ⟨g,o + k * 11 + 3,none⟩ = some ((.slice a0y n0y d0y)):=(bA.out.below.cell (p:=⟨g,o + k * 11 + 3,none⟩) hg).trans (HC.out 3 _ rfl)
       have fz3 : wc.frozen? ⟨g,o + k * 11 + 3,none⟩ = false:=hfz 3
       have z4 : wc.cell? ⟨g,o + k * 11 + 4,none⟩ = some ((.slice a1y n1y d1y)):=(bA.out.below.cell (p:=⟨g,o + k * 11 + 4,none⟩) hg).trans (HC.out 4 _ rfl)
       have fz4 : wc.frozen? ⟨g,o + k * 11 + 4,none⟩ = false:=hfz 4
       have z5 : wc.cell? ⟨g,o + k * 11 + 5,none⟩ = some (.bool YQ.s):=(bA.out.below.cell (p:=⟨g,o + k * 11 + 5,none⟩) hg).trans (HC.out 5 _ rfl)
       have fz5 : wc.frozen? ⟨g,o + k * 11 + 5,none⟩ = false:=hfz 5
       have z6 : wc.cell? ⟨g,o + k * 11 + 6,none⟩ = some ((.slice a2y n2y d2y)):=(bA.out.below.cell (p:=⟨g,o + k * 11 + 6,none⟩) hg).trans (HC.out 6 _ rfl)
       have fz6 : wc.frozen? ⟨g,o + k * 11 + 6,none⟩ = false:=hfz 6
       have z7 : wc.cell? ⟨g,o + k * 11 + 7,none⟩ = some ((.slice a3y n3y d3y)):=(bA.out.below.cell (p:=⟨g,o + k * 11 + 7,none⟩) hg).trans (HC.out 7 _ rfl)
       have fz7 : wc.frozen? ⟨g,o + k * 11 + 7,none⟩ = false:=hfz 7
       have z8 : wc.cell? ⟨g,o + k * 11 + 8,none⟩ = some (.bool YR.s):=(bA.out.below.cell (p:=⟨g,o + k * 11 + 8,none⟩) hg).trans (HC.out 8 _ rfl)
       have fz8 : wc.frozen? ⟨g,o + k * 11 + 8,none⟩ = false:=hfz 8
       have z9 : wc.cell? ⟨g,o + k * 11 + 9,none⟩ = some ((.slice a4y n4y d4y)):=(bA.out.below.cell (p:=⟨g,o + k * 11 + 9,none⟩) hg).trans (HC.out 9 _ rfl)
       have fz9 : wc.frozen? ⟨g,o + k * 11 + 9,none⟩ = false:=hfz 9
       have z10 : wc.cell? ⟨g,o + k * 11 + 10,none⟩ = some ((.slice a5y n5y d5y)):=(bA.out.below.cell (p:=⟨g,o + k * 11 + 10,none⟩) hg).trans (HC.out 10 _ rfl)
       have fz10 : wc.frozen? ⟨g,o + k * 11 + 10,none⟩ = false:=hfz 10
       obtain ⟨bW,bX,bY,bZ,b0,b1,b2,b3,b4,b5,bK⟩:=bA.out.c11 0 rfl
       go_upto_region 12 with fail
       clear bW bX bY bZ b0 b1 b2 b3 b4 b5 bK
       obtain ⟨w7,hw7⟩ : ∃ u,setCells wc g (o + k * 11) [.int .i64 NA,.int .i64 NB,.bool NP.s,(.slice aL aM aN),(.slice aO aP aQ),.bool NQ.s,(.slice aR aS aT),(.slice aU aV aW),.bool NR.s,(.slice aX aY aZ),(.slice a6 a7 a8)] = u:=⟨_,rfl⟩
       rw [show (((((((((((wc.setCell ⟨g,o + k * 11,none⟩ (.int .i64 NA)).setCell ⟨g,o + k * 11 + 1,none⟩ (.int .i64 NB)).setCell ⟨g,o + k * 11 + 2,none⟩ (.bool NP.s)).setCell ⟨g,o + k * 11 + 3,none⟩ ((.slice aL aM aN))).setCell ⟨g,o + k * 11 + 4,none⟩ ((.slice aO aP aQ))).setCell ⟨g,o + k * 11 + 5,none⟩ (.bool NQ.s)).setCell ⟨g,o + k * 11 + 6,none⟩ ((.slice aR aS aT))).setCell ⟨g,o + k * 11 + 7,none⟩ ((.slice aU aV aW))).setCell ⟨g,o + k * 11 + 8,none⟩ (.bool NR.s)).setCell ⟨g,o + k * 11 + 9,none⟩ ((.slice aX aY aZ))).setCell ⟨g,o + k * 11 + 10,none⟩ ((.slice a6 a7 a8))) = w7 from hw7]
       have hOM:=bA.out.own 0 rfl
       have OM:=Hd (show Owns wc w3.heap.size (Lr.rows (⟨NA,NB,NP,NQ,NR,.slice aL aM aN,.slice aO aP aQ,.slice aR aS aT,.slice aU aV aW,.slice aX aY aZ,.slice a6 a7 a8⟩ : Lr)) from hOM.left)
       have OE:=Hd (show Owns wc w3.heap.size [((Value.slice aE aF aG),ints NE.xs),((Value.slice aH aI aJ),ints NE.ys)] from hOM.right)
       have hgo : ∀ {l : Chunk},Owns wc w3.heap.size l → ∀ q ∈ l,q.1.ownBlock ≠ some g:=fun h q hq e=>by have:=((h.1 q hq).lt g e).1; omega
       have hput : LGrow w w7 (.slice (some ⟨g,o,none⟩) ys.length c3) (ys.set k (⟨NA,NB,NP,NQ,NR,.slice aL aM aN,.slice aO aP aQ,.slice aR aS aT,.slice aU aV aW,.slice aX aY aZ,.slice a6 a7 a8⟩ : Lr)) ∧ wc.grownBy w7 (some g):=by
        have h0:=HO0.out
        subst h0
        rw [← hw7,Nat.zero_add]
        exact GC.out.put (z:=(⟨NA,NB,NP,NQ,NR,.slice aL aM aN,.slice aO aP aQ,.slice aR aS aT,.slice aU aV aW,.slice aX aY aZ,.slice a6 a7 a8⟩ : Lr)) hkn (OM.out.based HBB.out.size) (G_3.out.row.newer OM.out (Nat.le_refl _)).symm (fun q hq=>Far.of_ne (.inr (fun e=>hgo OM.out q hq e.symm)))
       have GP:=Hd hput.1
       have hg7:=hput.2
       have hgbe : g ≠ be:=fun e=>HOE.out (by rw [← e]; rfl)
       have d9:=Hd ((bA.out.held 1 rfl).grown hg7 (by simp; omega))
       have eA:=Hd (eE.out.grown hg7 (by simp; omega))
       have OE7:=Hd (OE.out.grown hg7 (hgo OE.out))
       have HN:=Hd (show (Value.slice (some ⟨g,o,none⟩) ys.length c3).ownBlock ≠ some be from HOE.out)
       have hbx : ∀ q ∈ (rowsK NP NQ NR (.slice aL aM aN) (.slice aO aP aQ) (.slice aR aS aT) (.slice aU aV aW) (.slice aX aY aZ) (.slice a6 a7 a8) ++ [((.slice aE aF aG),ints NE.xs),((.slice aH aI aJ),ints NE.ys)]),q.1.ownBlock ≠ some be:=hOM.young hel3
       have HRW:=Hd (show ∀ q ∈ rowsL (ys.set k (⟨NA,NB,NP,NQ,NR,.slice aL aM aN,.slice aO aP aQ,.slice aR aS aT,.slice aU aV aW,.slice aX aY aZ,.slice a6 a7 a8⟩ : Lr)),q.1.ownBlock ≠ some be from fun q hq=>(rowsL_put_mem hq).elim (fun a=>HOR.out q a) (fun a=>hbx q (List.mem_append_left _ a)))
       have HRE:=Hd (show ∀ q ∈ [((Value.slice aE aF aG),ints NE.xs),((Value.slice aH aI aJ),ints NE.ys)],q.1.ownBlock ≠ some be from fun q hq=>hbx q (List.mem_append_right _ hq))
       have HFE:=Hd (show FarL (rowsL (ys.set k (⟨NA,NB,NP,NQ,NR,.slice aL aM aN,.slice aO aP aQ,.slice aR aS aT,.slice aU aV aW,.slice aX aY aZ,.slice a6 a7 a8⟩ : Lr))) [((Value.slice aE aF aG),ints NE.xs),((Value.slice aH aI aJ),ints NE.ys)] from fun p hp q hq=>(rowsL_put_mem hp).elim (fun a=>(G_3.out.row.newer OE.out (Nat.le_refl _)).symm p a q hq) (fun a=>hOM.far p a q hq))
       have HFW:=Hd (show ∀ q ∈ [((Value.slice aE aF aG),ints NE.xs),((Value.slice aH aI aJ),ints NE.ys)],Far (Value.slice (some ⟨g,o,none⟩) ys.length c3).ownBlock q.1.ownBlock from fun q hq j e1 e2=>by
        have a1:=((OE.out.1 q hq).lt j e2).1
        have a2:=(G_3.out.own.lt j e1).2
        omega)
       have d7:=Hd (show dts (ys.set k (⟨NA,NB,NP,NQ,NR,.slice aL aM aN,.slice aO aP aQ,.slice aR aS aT,.slice aU aV aW,.slice aX aY aZ,.slice a6 a7 a8⟩ : Lr)) = (dts ys).set k ⟨NA,NB,NP,NQ,NR⟩ from dts_put ys k _)
       clear hput hOM hgo hbx hw7 hfz z0 z1 z2 z3 z4 z5 z6 z7 z8 z9 z10 fz0 fz1 fz2 fz3 fz4 fz5 fz6 fz7 fz8 fz9 fz10 GC
       have HE2:=Hd (show addD (dts ys) ⟨ZA,ZB,ZP,ZQ,ZR⟩ = some ((dts ys).set k ⟨NA,NB,NP,NQ,NR⟩,NE) from by
        rw [HE1.out,if_pos Hokok.out,← HNANA.out,← HNBNB.out,← HNPNP.out,← HNQNQ.out,← HNRNR.out,← HNENE.out]
        rfl)
       have b7:=Hd (show St w w7 [(be,[.bool false,.slice none 0 0,.slice none 0 0]),(b10,[.bool NE.s,(.slice aE aF aG),(.slice aH aI aJ)])] [] from ⟨GP.out.below,fun p hp=>by
        rcases List.mem_cons.mp hp with rfl | hp
        ·exact ⟨eA.out,HW0⟩
        ·rcases List.mem_singleton.mp hp with rfl
         exact ⟨d9.out,by have:=HBB.out.size; show w.heap.size ≤ b10; omega⟩,by simp,by simpa using cS,.nil,by simp⟩)
       clear bA
       have b8 : ∀ (w' : World) (x0_ : List Value) (bs' : List (Nat × List Value)) (cs' : List Chunk),St w w' ((be,x0_) :: (b10,[.bool NE.s,(.slice aE aF aG),(.slice aH aI aJ)]) :: bs') cs' → w'.cell? ⟨b10,0,none⟩ = some (.bool NE.s) ∧ w'.cell? ⟨b10,1,none⟩ = some ((.slice aE aF aG)) ∧ w'.cell? ⟨b10,2,none⟩ = some ((.slice aH aI aJ)):=fun w' x0_ bs' cs' h=>(h.c3 1 rfl)
       refine wp_region_noPanic ?_
       refine wp_region_held_drew (S:=(fun w' =>w'.cell? ⟨b10,0,none⟩ = some (.bool NE.s) ∧ w'.cell? ⟨b10,1,none⟩ = some ((.slice aE aF aG)) ∧ w'.cell? ⟨b10,2,none⟩ = some ((.slice aH aI aJ)))) (by kernel_rfl) ?_ (fun bD=>?_)
       ·exact b8 _ _ _ _ b7.out.drew
       refine tI 0 rfl ?_ ?_ ?_
       rotate_left
       ·intro w9 aA; (try dsimp only at aA); go_simp; try with_reducible rfl
       try simp only [pm,s0,sS]
       refine tI 1 rfl ?_ ?_ ?_
       rotate_left
       ·intro w9 aA; (try dsimp only at aA); go_simp; try with_reducible rfl
       try simp only [pm,s0,sS]
       refine tI 2 rfl ?_ ?_ ?_
       rotate_left
       ·intro w9 aA; (try dsimp only at aA); go_simp; try with_reducible rfl
       try simp only [pm,s0,sS]
       refine wpAnyH_ready (rs:=[3]) (by kernel_rfl) (by simp) ?_
       refine ac rfl (fun K hK=>?_) AllReadyH.nil
       rw [if_pos (by rfl)]
       refine wp_store_mid _ _ _ rfl _ _ (List.toArray [.bool NE.s,(.slice aE aF aG),(.slice aH aI aJ)]) rfl rfl (b7.out.drew.there_ 0 rfl rfl) (size_rat) (all_oneCell_toArray (cs:=[.bool NE.s,(.slice aE aF aG),(.slice aH aI aJ)]) (List.all_eq_true.mp rfl)) ?_
       simp only [Act.put]
       have cT:=Hd (b7.out.drew.setKit 0 [.bool NE.s,(.slice aE aF aG),(.slice aH aI aJ)] rfl rfl)
       clear b7
       have GF:=Hd (show LGrow w (World.setCells w7.drew be 0 [.bool NE.s,(.slice aE aF aG),(.slice aH aI aJ)]) (.slice (some ⟨g,o,none⟩) ys.length c3) (ys.set k (⟨NA,NB,NP,NQ,NR,.slice aL aM aN,.slice aO aP aQ,.slice aR aS aT,.slice aU aV aW,.slice aX aY aZ,.slice a6 a7 a8⟩ : Lr)) from by rw [setCells_kit]; exact GP.out.drew.stored HW0 HN.out HRW.out 0 _)
       have OF:=Hd (show Owns (World.setCells w7.drew be 0 [.bool NE.s,(.slice aE aF aG),(.slice aH aI aJ)]) w.heap.size [((Value.slice aE aF aG),ints NE.xs),((Value.slice aH aI aJ),ints NE.ys)] from by rw [setCells_kit]; exact ((OE7.out.below ((Below.refl _ _).drew)).stored HRE.out 0 _).based HBB.out.size)
       generalize hwq : World.setCells _ _ _ _ = wq8 at cT GF OF ⊢
       clear hwq
       refine hK.out _ _ (b8 _ _ _ _ cT.out) (fun eB=>?_)
       clear hK K
       try simp only [pm,s0,sS]
       refine tI 4 rfl ?_ ?_ ?_
       rotate_left
       ·intro w9 aA; (try dsimp only at aA); go_simp; try with_reducible rfl
       try simp only [pm,s0,sS]
       refine wpAnyH_done (by kernel_rfl) ?_ _
       refine NoPanic.normal ?_
       obtain ⟨r0,r1,r2⟩:=cT.out.c3 0 rfl
       go_wp2_with fail
       exact bodyPost_ret (v:=.tuple #[(.slice (some ⟨g,o,none⟩) ys.length c3),.agg #[.bool NE.s,(.slice aE aF aG),(.slice aH aI aJ)],.bool true]) (by simp [results,Tryz.results7,go_sem,r0,r1,r2]) rfl (by rw [HANS.out,HE2.out]; exact ⟨_,(ys.set k (⟨NA,NB,NP,NQ,NR,.slice aL aM aN,.slice aO aP aQ,.slice aR aS aT,.slice aU aV aW,.slice aX aY aZ,.slice a6 a7 a8⟩ : Lr)),_,_,rfl,d7.out,⟨GF.out,OF.out,HFE.out,HFW.out⟩⟩)
     | false=>
      rcases G_3.out.own.2 with ⟨e,h0⟩ | ⟨g,cap,cur,e,q1,q2,q3,q4,q5,q6⟩
      ·obtain ⟨rfl,hy0,rfl⟩ : A3 = none ∧ ys.length = 0 ∧ c3 = 0:=by simpa using e
       obtain rfl:=List.eq_nil_of_length_eq_zero hy0
       obtain rfl : k = 0:=by simpa using hk
       have hws:=bC.out.below.size
       have BA:=Hd (show Below w3.heap.size w3 (wc.alloc (.cells #[] 40)) from bC.out.below.alloc bC.out.below.size _)
       have OA:=Hd (show (wc.alloc (.cells #[] 40)).ownsRow w3.heap.size 40 11 (.slice (some ⟨wc.heap.size,0,none⟩) 0 0) 0 [] from (LGrow.made (w0:=w3) bC.out.below).own)
       have hal : (wc.alloc (.cells #[] 40)).heap.size = wc.heap.size + 1:=by simp
       have B4:=Hd BA.out
       have O4:=Hd (show (wc.alloc (.cells #[] 40)).ownsRow w3.heap.size 40 11 (.slice (some ⟨wc.heap.size,0,none⟩) 0 0) 0 (cellsL ([] : List Lr)) from OA.out)
       have hs34:=B4.out.size
       have lf0:=(B4.out.cell (p:=⟨bl,0,none⟩) hll3).trans l0
       have lf1:=(B4.out.cell (p:=⟨bl,1,none⟩) hll3).trans l1
       have lf2:=(B4.out.cell (p:=⟨bl,2,none⟩) hll3).trans l2
       have lf3:=(B4.out.cell (p:=⟨bl,3,none⟩) hll3).trans l3
       have lf4:=(B4.out.cell (p:=⟨bl,4,none⟩) hll3).trans l4
       have lf5:=(B4.out.cell (p:=⟨bl,5,none⟩) hll3).trans l5
       have lf6:=(B4.out.cell (p:=⟨bl,6,none⟩) hll3).trans l6
       have lf7:=(B4.out.cell (p:=⟨bl,7,none⟩) hll3).trans l7
       have lf8:=(B4.out.cell (p:=⟨bl,8,none⟩) hll3).trans l8
       have lf9:=(B4.out.cell (p:=⟨bl,9,none⟩) hll3).trans l9
       have lf10:=(B4.out.cell (p:=⟨bl,10,none⟩) hll3).trans l10
       go_wp2_with fail
       refine (l06Copy_f ZA ZB ZP ZQ ZR (.slice a0 n0 d0) (.slice a1 n1 d1) (.slice a2 n2 d2) (.slice a3 n3 d3) (.slice a4 n4 d4) (.slice a5 n5 d5) _ HOK.out (HL3.out.below B4.out)).mono ?_
       rintro e w5 ⟨x0,x1,x2,x3,x4,x5,rfl,ho,hb⟩
       obtain ⟨e0,m0,h0,rfl⟩:=(ho.at_ 0 rfl).shape3
       obtain ⟨e1,m1,h1,rfl⟩:=(ho.at_ 1 rfl).shape3
       obtain ⟨e2,m2,h2,rfl⟩:=(ho.at_ 2 rfl).shape3
       obtain ⟨e3,m3,h3,rfl⟩:=(ho.at_ 3 rfl).shape3
       obtain ⟨e4,m4,h4,rfl⟩:=(ho.at_ 4 rfl).shape3
       obtain ⟨e5,m5,h5,rfl⟩:=(ho.at_ 5 rfl).shape3
       have OX:=Hd (show Owns w5 _ (Lr.rows (⟨ZA,ZB,ZP,ZQ,ZR,.slice e0 m0 h0,.slice e1 m1 h1,.slice e2 m2 h2,.slice e3 m3 h3,.slice e4 m4 h4,.slice e5 m5 h5⟩ : Lr)) from ho)
       have B5:=Hd hb
       have hs45:=hb.size
       clear ho hb lf0 lf1 lf2 lf3 lf4 lf5 lf6 lf7 lf8 lf9 lf10
       have O5:=Hd (own_below O4.out (B5.out.alloc B5.out.size (.cells #[.int .i64 ZA,.int .i64 ZB,.bool ZP.s,.slice e0 m0 h0,.slice e1 m1 h1,.bool ZQ.s,.slice e2 m2 h2,.slice e3 m3 h3,.bool ZR.s,.slice e4 m4 h4,.slice e5 m5 h5] 40)))
       have HCN:=Hd (cells_new w5 (Lr.cells (⟨ZA,ZB,ZP,ZQ,ZR,.slice e0 m0 h0,.slice e1 m1 h1,.slice e2 m2 h2,.slice e3 m3 h3,.slice e4 m4 h4,.slice e5 m5 h5⟩ : Lr)) 40)
       have HOC:=Hd (Lr.one_cells ZA ZB ZP ZQ ZR e0 e1 e2 e3 e4 e5 m0 m1 m2 m3 m4 m5 h0 h1 h2 h3 h4 h5)
       go_wp2_with (at_builtin; refine wpList_append_own_at _ rfl (.tmp 75) (.tmp 78) 32 rfl w3.heap.size 40 i0 _ 11 184 Tryz.underlying32 hi hz0 hz1 hz2 rfl (by decide) _ 0 (cellsL (([] : List Lr).take 0)) rfl O5.out ⟨w5.heap.size,0,none⟩ 1 1 (Lr.cells (⟨ZA,ZB,ZP,ZQ,ZR,.slice e0 m0 h0,.slice e1 m1 h1,.slice e2 m2 h2,.slice e3 m3 h3,.slice e4 m4 h4,.slice e5 m5 h5⟩ : Lr)) rfl rfl HCN.out HOC.out (by unfold maxLen; omega) (by omega) (by simp; omega) ?_)
       intro v6 w6 hown6 hgrow6 _ hloc6
       have B5a:=Hd (show Below w3.heap.size w3 (w5.alloc (.cells #[.int .i64 ZA,.int .i64 ZB,.bool ZP.s,.slice e0 m0 h0,.slice e1 m1 h1,.bool ZQ.s,.slice e2 m2 h2,.slice e3 m3 h3,.bool ZR.s,.slice e4 m4 h4,.slice e5 m5 h5] 40)) from (B4.out.trans (B5.out.mono hs34)).alloc (by omega) _)
       have B6:=Hd (show Below w3.heap.size w3 w6 from grown_below B5a.out hgrow6 B5a.out.size (fun j e=>(O4.out.lt j e).1))
       have O6:=Hd (show w6.ownsRow w3.heap.size 40 11 v6 (0 + 1) (cellsL (([] : List Lr).take 0) ++ Lr.cells (⟨ZA,ZB,ZP,ZQ,ZR,.slice e0 m0 h0,.slice e1 m1 h1,.slice e2 m2 h2,.slice e3 m3 h3,.slice e4 m4 h4,.slice e5 m5 h5⟩ : Lr)) from hown6)
       have hs36:=B6.out.size
       have LD:=Hd (show LArg w6 none 0 ([] : List Lr) from HA3.out.below B6.out)
       go_wp2_with (at_builtin; refine wpList_append_links rfl (.tmp 80) (.tmp 83) 32 rfl w3.heap.size 40 i0 _ Tryz.underlying32 hi hz0 hz1 hz2 rfl _ (0 + 1) (cellsL (([] : List Lr).take 0) ++ Lr.cells (⟨ZA,ZB,ZP,ZQ,ZR,.slice e0 m0 h0,.slice e1 m1 h1,.slice e2 m2 h2,.slice e3 m3 h3,.slice e4 m4 h4,.slice e5 m5 h5⟩ : Lr)) rfl O6.out none 0 0 ([] : List Lr) rfl LD.out (fun _=>rfl) (by omega) hs36 ?_)
       all_goals
        intro v7 w7 hown7 hgrow7
        have B7:=Hd (show Below w3.heap.size w3 w7 from grown_below B6.out hgrow7 hs36 (fun j e=>(O6.out.lt j e).1))
        have O7:=Hd (show w7.ownsRow w3.heap.size 40 11 v7 (0 + 1 + (([] : List Lr).length - 0)) (cellsL (([] : List Lr).take 0) ++ (Lr.cells (⟨ZA,ZB,ZP,ZQ,ZR,.slice e0 m0 h0,.slice e1 m1 h1,.slice e2 m2 h2,.slice e3 m3 h3,.slice e4 m4 h4,.slice e5 m5 h5⟩ : Lr) ++ cellsL (([] : List Lr).drop 0))) from by simpa [List.append_assoc,show cellsL ([] : List Lr) = [] from rfl] using hown7)
        have hs67:=hgrow7.size
        have hv4:=fun j e=>(O4.out.lt j e).2
        have X6 : Owns w6 (wc.alloc (.cells #[] 40)).heap.size (Lr.rows (⟨ZA,ZB,ZP,ZQ,ZR,.slice e0 m0 h0,.slice e1 m1 h1,.slice e2 m2 h2,.slice e3 m3 h3,.slice e4 m4 h4,.slice e5 m5 h5⟩ : Lr)):=by
         have ht:=(Turned.of_grown hgrow6)
         have h5:=OX.out.below ((Below.refl w5.heap.size w5).alloc (Nat.le_refl _) (.cells #[.int .i64 ZA,.int .i64 ZB,.bool ZP.s,.slice e0 m0 h0,.slice e1 m1 h1,.bool ZQ.s,.slice e2 m2 h2,.slice e3 m3 h3,.bool ZR.s,.slice e4 m4 h4,.slice e5 m5 h5] 40))
         exact ⟨fun p hp=>ht.own (h5.1 p hp) fun y hy j e1 e2=>by
          simp only [List.mem_singleton] at hy
          subst hy
          have a1:=((OX.out.1 p hp).lt j e1).1
          have a2:=(O4.out.lt j e2).2
          omega,h5.2⟩
        have X7 : Owns w7 (wc.alloc (.cells #[] 40)).heap.size (Lr.rows (⟨ZA,ZB,ZP,ZQ,ZR,.slice e0 m0 h0,.slice e1 m1 h1,.slice e2 m2 h2,.slice e3 m3 h3,.slice e4 m4 h4,.slice e5 m5 h5⟩ : Lr)):=by
         have ht:=(Turned.of_grown hgrow7)
         exact ⟨fun p hp=>ht.own (X6.1 p hp) fun y hy j e1 e2=>by
          simp only [List.mem_singleton] at hy
          subst hy
          have a1:=((OX.out.1 p hp).lt j e1)
          rcases hloc6 with hl | hl
          ·rw [hl] at e2
           have a2:=(O4.out.lt j e2).2
           omega
          ·rw [hl] at e2
           have a2 : w5.heap.size + 1 = j:=by simpa using e2
           omega,X6.2⟩
        have HX7:=Hd X7
        clear X6 X7 hgrow6 hgrow7 hown6 hown7
        go_wp2_with fail
        refine (ratFromInt_s 0 _ (by decide)).mono ?_
        rintro e w8 ⟨u0,u1,rfl,ho,hb⟩
        obtain ⟨Ae,ne,ce,rfl⟩:=(ho.at_ 0 rfl).shape3
        obtain ⟨Be,me,de,rfl⟩:=(ho.at_ 1 rfl).shape3
        have hs37:=B7.out.size
        have B8:=Hd (show Below w3.heap.size w3 w8 from B7.out.trans (hb.mono hs37))
        have X8:=HX7.out.below hb
        have O8:=own_below O7.out hb
        have OE8:=Hd (show Owns w8 w7.heap.size [(Value.slice Ae ne ce,ints (Fr.of 0).xs),(Value.slice Be me de,ints (Fr.of 0).ys)] from ho)
        have eC:=Hd (d8.out.after B8.out)
        have hln : 0 + 1 + (([] : List Lr).length - 0) = (([] : List Lr).take 0 ++ (⟨ZA,ZB,ZP,ZQ,ZR,.slice e0 m0 h0,.slice e1 m1 h1,.slice e2 m2 h2,.slice e3 m3 h3,.slice e4 m4 h4,.slice e5 m5 h5⟩ : Lr) :: ([] : List Lr).drop 0).length:=by simp <;> omega
        have GY : LGrow w w8 v7 (([] : List Lr).take 0 ++ (⟨ZA,ZB,ZP,ZQ,ZR,.slice e0 m0 h0,.slice e1 m1 h1,.slice e2 m2 h2,.slice e3 m3 h3,.slice e4 m4 h4,.slice e5 m5 h5⟩ : Lr) :: ([] : List Lr).drop 0):=by
         refine ⟨HBB.out.trans (B8.out.mono HBB.out.size),?_,?_,?_⟩
         ·rw [← hln,cellsL_app]
          exact own_lower O8 HBB.out.size
         ·refine (((G_3.out.row.below B8.out).app (X8.based (by have:=HBB.out.size; omega)) (G_3.out.row.newer X8 hs34).symm).perm (rowsL_ins ([] : List Lr) 0 _))
         ·intro q hq
          rcases rowsL_ins_mem hq with a | a
          ·intro j e1 e2
           have a1:=(O8.lt j e1).1
           have a2:=((G_3.out.row.1 q a).lt j e2).2
           omega
          ·exact own_types O8 (X8.1 q a)
        have HGY:=Hd GY
        have HVN:=Hd (show v7.ownBlock ≠ some be from fun e=>by have:=(O8.lt be e).1; omega)
        have HRN:=Hd (show ∀ q ∈ rowsL (([] : List Lr).take 0 ++ (⟨ZA,ZB,ZP,ZQ,ZR,.slice e0 m0 h0,.slice e1 m1 h1,.slice e2 m2 h2,.slice e3 m3 h3,.slice e4 m4 h4,.slice e5 m5 h5⟩ : Lr) :: ([] : List Lr).drop 0),q.1.ownBlock ≠ some be from fun q hq=>(rowsL_ins_mem hq).elim (fun a=>HOR.out q a) (fun a=>X8.young (by omega) q a))
        have HFE:=Hd (show FarL (rowsL (([] : List Lr).take 0 ++ (⟨ZA,ZB,ZP,ZQ,ZR,.slice e0 m0 h0,.slice e1 m1 h1,.slice e2 m2 h2,.slice e3 m3 h3,.slice e4 m4 h4,.slice e5 m5 h5⟩ : Lr) :: ([] : List Lr).drop 0)) [(Value.slice Ae ne ce,ints (Fr.of 0).xs),(Value.slice Be me de,ints (Fr.of 0).ys)] from fun p hp q hq j e1 e2=>by
         have a2:=((OE8.out.1 q hq).lt j e2).1
         rcases rowsL_ins_mem hp with a | a
         ·have a1:=((G_3.out.row.1 p a).lt j e1).2
          omega
         ·have a1:=((HX7.out.1 p a).lt j e1).2
          omega)
        have HFW:=Hd (show ∀ q ∈ [(Value.slice Ae ne ce,ints (Fr.of 0).xs),(Value.slice Be me de,ints (Fr.of 0).ys)],Far v7.ownBlock q.1.ownBlock from fun q hq j e1 e2=>by
         have a1:=((OE8.out.1 q hq).lt j e2).1
         have a2:=(O7.out.lt j e1).2
         omega)
        have HAD:=Hd (add_miss (x:=⟨ZA,ZB,ZP,ZQ,ZR⟩) HP2.out)
        have eD:=Hd (dts_ins ([] : List Lr) 0 (⟨ZA,ZB,ZP,ZQ,ZR,.slice e0 m0 h0,.slice e1 m1 h1,.slice e2 m2 h2,.slice e3 m3 h3,.slice e4 m4 h4,.slice e5 m5 h5⟩ : Lr))
        have HW0 : w.heap.size ≤ be:=hge_e
        have hbe7 : be < w7.heap.size:=by omega
        clear X8 O8 GY ho hb hln HX7 O7 B7
        obtain ⟨z0,fz0,z1,fz1,z2,fz2⟩:=eC.out.g3
        go_wp2
        have GF:=Hd (HGY.out.stored HW0 HVN.out HRN.out 0 [.bool (Fr.of 0).s,.slice Ae ne ce,.slice Be me de])
        have OF:=Hd ((OE8.out.stored (OE8.out.young hbe7) 0 [.bool (Fr.of 0).s,.slice Ae ne ce,.slice Be me de]).based (base':=w.heap.size) (by have:=HBB.out.size; omega))
        exact bodyPost_ret (v:=.tuple #[v7,.agg #[.bool (Fr.of 0).s,.slice Ae ne ce,.slice Be me de],.bool true]) (by simp [results,Tryz.results7,go_sem,z0,z1,z2]) rfl (by show OwnSE (alAns true (dts zs) ⟨ZA,ZB,ZP,ZQ,ZR⟩) w _ _; rw [HANS.out,HAD.out]; exact ⟨v7,(([] : List Lr).take 0 ++ (⟨ZA,ZB,ZP,ZQ,ZR,.slice e0 m0 h0,.slice e1 m1 h1,.slice e2 m2 h2,.slice e3 m3 h3,.slice e4 m4 h4,.slice e5 m5 h5⟩ : Lr) :: ([] : List Lr).drop 0),_,_,rfl,eD.out,⟨GF.out,OF.out,HFE.out,HFW.out⟩⟩)
      ·obtain ⟨rfl,rfl⟩ : A3 = some ⟨g,0,none⟩ ∧ c3 = cap:=by simpa using e
       have hws:=bC.out.below.size
       have BA:=Hd (show Below w3.heap.size w3 (wc.alloc (.cells #[] 40)) from bC.out.below.alloc bC.out.below.size _)
       have OA:=Hd (show (wc.alloc (.cells #[] 40)).ownsRow w3.heap.size 40 11 (.slice (some ⟨wc.heap.size,0,none⟩) 0 0) 0 [] from (LGrow.made (w0:=w3) bC.out.below).own)
       have LA:=Hd ((HA3.out.below BA.out).upto hk)
       go_wp2_with (at_builtin; refine wpList_append_links rfl (.tmp 70) (.tmp 73) 32 rfl w3.heap.size 40 i0 _ Tryz.underlying32 hi hz0 hz1 hz2 rfl _ 0 [] rfl OA.out _ k c3 (ys.take k) rfl LA.out (fun h=>by cases h) (by omega) BA.out.size ?_)
       intro v4 w4 hown4 hgrow4
       have B4:=Hd (show Below w3.heap.size w3 w4 from grown_below BA.out hgrow4 BA.out.size (fun j e=>Nat.le_trans hws (Nat.le_of_eq (by simpa [Value.ownBlock] using e))))
       have O4:=Hd (show w4.ownsRow w3.heap.size 40 11 v4 k (cellsL (ys.take k)) from by simpa using hown4)
       have hs34:=B4.out.size
       clear hown4 hgrow4 LA OA BA
       have lf0:=(B4.out.cell (p:=⟨bl,0,none⟩) hll3).trans l0
       have lf1:=(B4.out.cell (p:=⟨bl,1,none⟩) hll3).trans l1
       have lf2:=(B4.out.cell (p:=⟨bl,2,none⟩) hll3).trans l2
       have lf3:=(B4.out.cell (p:=⟨bl,3,none⟩) hll3).trans l3
       have lf4:=(B4.out.cell (p:=⟨bl,4,none⟩) hll3).trans l4
       have lf5:=(B4.out.cell (p:=⟨bl,5,none⟩) hll3).trans l5
       have lf6:=(B4.out.cell (p:=⟨bl,6,none⟩) hll3).trans l6
       have lf7:=(B4.out.cell (p:=⟨bl,7,none⟩) hll3).trans l7
       have lf8:=(B4.out.cell (p:=⟨bl,8,none⟩) hll3).trans l8
       have lf9:=(B4.out.cell (p:=⟨bl,9,none⟩) hll3).trans l9
       have lf10:=(B4.out.cell (p:=⟨bl,10,none⟩) hll3).trans l10
       go_wp2_with fail
       refine (l06Copy_f ZA ZB ZP ZQ ZR (.slice a0 n0 d0) (.slice a1 n1 d1) (.slice a2 n2 d2) (.slice a3 n3 d3) (.slice a4 n4 d4) (.slice a5 n5 d5) _ HOK.out (HL3.out.below B4.out)).mono ?_
       rintro e w5 ⟨x0,x1,x2,x3,x4,x5,rfl,ho,hb⟩
       obtain ⟨e0,m0,h0,rfl⟩:=(ho.at_ 0 rfl).shape3
       obtain ⟨e1,m1,h1,rfl⟩:=(ho.at_ 1 rfl).shape3
       obtain ⟨e2,m2,h2,rfl⟩:=(ho.at_ 2 rfl).shape3
       obtain ⟨e3,m3,h3,rfl⟩:=(ho.at_ 3 rfl).shape3
       obtain ⟨e4,m4,h4,rfl⟩:=(ho.at_ 4 rfl).shape3
       obtain ⟨e5,m5,h5,rfl⟩:=(ho.at_ 5 rfl).shape3
       have OX:=Hd (show Owns w5 _ (Lr.rows (⟨ZA,ZB,ZP,ZQ,ZR,.slice e0 m0 h0,.slice e1 m1 h1,.slice e2 m2 h2,.slice e3 m3 h3,.slice e4 m4 h4,.slice e5 m5 h5⟩ : Lr)) from ho)
       have B5:=Hd hb
       have hs45:=hb.size
       clear ho hb lf0 lf1 lf2 lf3 lf4 lf5 lf6 lf7 lf8 lf9 lf10
       have O5:=Hd (own_below O4.out (B5.out.alloc B5.out.size (.cells #[.int .i64 ZA,.int .i64 ZB,.bool ZP.s,.slice e0 m0 h0,.slice e1 m1 h1,.bool ZQ.s,.slice e2 m2 h2,.slice e3 m3 h3,.bool ZR.s,.slice e4 m4 h4,.slice e5 m5 h5] 40)))
       have HCN:=Hd (cells_new w5 (Lr.cells (⟨ZA,ZB,ZP,ZQ,ZR,.slice e0 m0 h0,.slice e1 m1 h1,.slice e2 m2 h2,.slice e3 m3 h3,.slice e4 m4 h4,.slice e5 m5 h5⟩ : Lr)) 40)
       have HOC:=Hd (Lr.one_cells ZA ZB ZP ZQ ZR e0 e1 e2 e3 e4 e5 m0 m1 m2 m3 m4 m5 h0 h1 h2 h3 h4 h5)
       go_wp2_with (at_builtin; refine wpList_append_own_at _ rfl (.tmp 75) (.tmp 78) 32 rfl w3.heap.size 40 i0 _ 11 184 Tryz.underlying32 hi hz0 hz1 hz2 rfl (by decide) _ k (cellsL (ys.take k)) rfl O5.out ⟨w5.heap.size,0,none⟩ 1 1 (Lr.cells (⟨ZA,ZB,ZP,ZQ,ZR,.slice e0 m0 h0,.slice e1 m1 h1,.slice e2 m2 h2,.slice e3 m3 h3,.slice e4 m4 h4,.slice e5 m5 h5⟩ : Lr)) rfl rfl HCN.out HOC.out (by unfold maxLen; omega) (by omega) (by simp; omega) ?_)
       intro v6 w6 hown6 hgrow6 _ hloc6
       have B5a:=Hd (show Below w3.heap.size w3 (w5.alloc (.cells #[.int .i64 ZA,.int .i64 ZB,.bool ZP.s,.slice e0 m0 h0,.slice e1 m1 h1,.bool ZQ.s,.slice e2 m2 h2,.slice e3 m3 h3,.bool ZR.s,.slice e4 m4 h4,.slice e5 m5 h5] 40)) from (B4.out.trans (B5.out.mono hs34)).alloc (by omega) _)
       have B6:=Hd (show Below w3.heap.size w3 w6 from grown_below B5a.out hgrow6 B5a.out.size (fun j e=>(O4.out.lt j e).1))
       have O6:=Hd (show w6.ownsRow w3.heap.size 40 11 v6 (k + 1) (cellsL (ys.take k) ++ Lr.cells (⟨ZA,ZB,ZP,ZQ,ZR,.slice e0 m0 h0,.slice e1 m1 h1,.slice e2 m2 h2,.slice e3 m3 h3,.slice e4 m4 h4,.slice e5 m5 h5⟩ : Lr)) from hown6)
       have hs36:=B6.out.size
       have ld : LArg w6 (if c3 = k then some ⟨g,0,none⟩ else some ⟨g,k * 11,none⟩) (ys.length - k) (ys.drop k):=by
        by_cases h : c3 = k
        ·rw [if_pos h,List.drop_of_length_le (by omega),show ys.length - k = 0 by omega]
         simpa using (HA3.out.below B6.out).upto (Nat.zero_le _)
        ·rw [if_neg h]
         simpa using (HA3.out.below B6.out).from_ hk
       have LD:=Hd ld
       clear ld
       go_wp2_with (at_builtin; refine wpList_append_links rfl (.tmp 80) (.tmp 83) 32 rfl w3.heap.size 40 i0 _ Tryz.underlying32 hi hz0 hz1 hz2 rfl _ (k + 1) (cellsL (ys.take k) ++ Lr.cells (⟨ZA,ZB,ZP,ZQ,ZR,.slice e0 m0 h0,.slice e1 m1 h1,.slice e2 m2 h2,.slice e3 m3 h3,.slice e4 m4 h4,.slice e5 m5 h5⟩ : Lr)) rfl O6.out (if c3 = k then some ⟨g,0,none⟩ else some ⟨g,k * 11,none⟩) (ys.length - k) (c3 - k) (ys.drop k) rfl LD.out (fun h=>by split at h <;> cases h) (by omega) hs36 ?_)
       all_goals
        intro v7 w7 hown7 hgrow7
        have B7:=Hd (show Below w3.heap.size w3 w7 from grown_below B6.out hgrow7 hs36 (fun j e=>(O6.out.lt j e).1))
        have O7:=Hd (show w7.ownsRow w3.heap.size 40 11 v7 (k + 1 + (ys.length - k)) (cellsL (ys.take k) ++ (Lr.cells (⟨ZA,ZB,ZP,ZQ,ZR,.slice e0 m0 h0,.slice e1 m1 h1,.slice e2 m2 h2,.slice e3 m3 h3,.slice e4 m4 h4,.slice e5 m5 h5⟩ : Lr) ++ cellsL (ys.drop k))) from by simpa [List.append_assoc,show cellsL ([] : List Lr) = [] from rfl] using hown7)
        have hs67:=hgrow7.size
        have hv4:=fun j e=>(O4.out.lt j e).2
        have X6 : Owns w6 w4.heap.size (Lr.rows (⟨ZA,ZB,ZP,ZQ,ZR,.slice e0 m0 h0,.slice e1 m1 h1,.slice e2 m2 h2,.slice e3 m3 h3,.slice e4 m4 h4,.slice e5 m5 h5⟩ : Lr)):=by
         have ht:=(Turned.of_grown hgrow6)
         have h5:=OX.out.below ((Below.refl w5.heap.size w5).alloc (Nat.le_refl _) (.cells #[.int .i64 ZA,.int .i64 ZB,.bool ZP.s,.slice e0 m0 h0,.slice e1 m1 h1,.bool ZQ.s,.slice e2 m2 h2,.slice e3 m3 h3,.bool ZR.s,.slice e4 m4 h4,.slice e5 m5 h5] 40))
         exact ⟨fun p hp=>ht.own (h5.1 p hp) fun y hy j e1 e2=>by
          simp only [List.mem_singleton] at hy
          subst hy
          have a1:=((OX.out.1 p hp).lt j e1).1
          have a2:=(O4.out.lt j e2).2
          omega,h5.2⟩
        have X7 : Owns w7 w4.heap.size (Lr.rows (⟨ZA,ZB,ZP,ZQ,ZR,.slice e0 m0 h0,.slice e1 m1 h1,.slice e2 m2 h2,.slice e3 m3 h3,.slice e4 m4 h4,.slice e5 m5 h5⟩ : Lr)):=by
         have ht:=(Turned.of_grown hgrow7)
         exact ⟨fun p hp=>ht.own (X6.1 p hp) fun y hy j e1 e2=>by
          simp only [List.mem_singleton] at hy
          subst hy
          have a1:=((OX.out.1 p hp).lt j e1)
          rcases hloc6 with hl | hl
          ·rw [hl] at e2
           have a2:=(O4.out.lt j e2).2
           omega
          ·rw [hl] at e2
           have a2 : w5.heap.size + 1 = j:=by simpa using e2
           omega,X6.2⟩
        have HX7:=Hd X7
        clear X6 X7 hgrow6 hgrow7 hown6 hown7
        go_wp2_with fail
        refine (ratFromInt_s 0 _ (by decide)).mono ?_
        rintro e w8 ⟨u0,u1,rfl,ho,hb⟩
        obtain ⟨Ae,ne,ce,rfl⟩:=(ho.at_ 0 rfl).shape3
        obtain ⟨Be,me,de,rfl⟩:=(ho.at_ 1 rfl).shape3
        have hs37:=B7.out.size
        have B8:=Hd (show Below w3.heap.size w3 w8 from B7.out.trans (hb.mono hs37))
        have X8:=HX7.out.below hb
        have O8:=own_below O7.out hb
        have OE8:=Hd (show Owns w8 w7.heap.size [(Value.slice Ae ne ce,ints (Fr.of 0).xs),(Value.slice Be me de,ints (Fr.of 0).ys)] from ho)
        have eC:=Hd (d8.out.after B8.out)
        have hln : k + 1 + (ys.length - k) = (ys.take k ++ (⟨ZA,ZB,ZP,ZQ,ZR,.slice e0 m0 h0,.slice e1 m1 h1,.slice e2 m2 h2,.slice e3 m3 h3,.slice e4 m4 h4,.slice e5 m5 h5⟩ : Lr) :: ys.drop k).length:=by simp <;> omega
        have GY : LGrow w w8 v7 (ys.take k ++ (⟨ZA,ZB,ZP,ZQ,ZR,.slice e0 m0 h0,.slice e1 m1 h1,.slice e2 m2 h2,.slice e3 m3 h3,.slice e4 m4 h4,.slice e5 m5 h5⟩ : Lr) :: ys.drop k):=by
         refine ⟨HBB.out.trans (B8.out.mono HBB.out.size),?_,?_,?_⟩
         ·rw [← hln,cellsL_app]
          exact own_lower O8 HBB.out.size
         ·refine (((G_3.out.row.below B8.out).app (X8.based (by have:=HBB.out.size; omega)) (G_3.out.row.newer X8 hs34).symm).perm (rowsL_ins ys k _))
         ·intro q hq
          rcases rowsL_ins_mem hq with a | a
          ·intro j e1 e2
           have a1:=(O8.lt j e1).1
           have a2:=((G_3.out.row.1 q a).lt j e2).2
           omega
          ·exact own_types O8 (X8.1 q a)
        have HGY:=Hd GY
        have HVN:=Hd (show v7.ownBlock ≠ some be from fun e=>by have:=(O8.lt be e).1; omega)
        have HRN:=Hd (show ∀ q ∈ rowsL (ys.take k ++ (⟨ZA,ZB,ZP,ZQ,ZR,.slice e0 m0 h0,.slice e1 m1 h1,.slice e2 m2 h2,.slice e3 m3 h3,.slice e4 m4 h4,.slice e5 m5 h5⟩ : Lr) :: ys.drop k),q.1.ownBlock ≠ some be from fun q hq=>(rowsL_ins_mem hq).elim (fun a=>HOR.out q a) (fun a=>X8.young (by omega) q a))
        have HFE:=Hd (show FarL (rowsL (ys.take k ++ (⟨ZA,ZB,ZP,ZQ,ZR,.slice e0 m0 h0,.slice e1 m1 h1,.slice e2 m2 h2,.slice e3 m3 h3,.slice e4 m4 h4,.slice e5 m5 h5⟩ : Lr) :: ys.drop k)) [(Value.slice Ae ne ce,ints (Fr.of 0).xs),(Value.slice Be me de,ints (Fr.of 0).ys)] from fun p hp q hq j e1 e2=>by
         have a2:=((OE8.out.1 q hq).lt j e2).1
         rcases rowsL_ins_mem hp with a | a
         ·have a1:=((G_3.out.row.1 p a).lt j e1).2
          omega
         ·have a1:=((HX7.out.1 p a).lt j e1).2
          omega)
        have HFW:=Hd (show ∀ q ∈ [(Value.slice Ae ne ce,ints (Fr.of 0).xs),(Value.slice Be me de,ints (Fr.of 0).ys)],Far v7.ownBlock q.1.ownBlock from fun q hq j e1 e2=>by
         have a1:=((OE8.out.1 q hq).lt j e2).1
         have a2:=(O7.out.lt j e1).2
         omega)
        have HAD:=Hd (add_miss (x:=⟨ZA,ZB,ZP,ZQ,ZR⟩) HP2.out)
        have eD:=Hd (dts_ins ys k (⟨ZA,ZB,ZP,ZQ,ZR,.slice e0 m0 h0,.slice e1 m1 h1,.slice e2 m2 h2,.slice e3 m3 h3,.slice e4 m4 h4,.slice e5 m5 h5⟩ : Lr))
        have HW0 : w.heap.size ≤ be:=hge_e
        have hbe7 : be < w7.heap.size:=by omega
        clear X8 O8 GY ho hb hln HX7 O7 B7
        obtain ⟨z0,fz0,z1,fz1,z2,fz2⟩:=eC.out.g3
        go_wp2
        have GF:=Hd (HGY.out.stored HW0 HVN.out HRN.out 0 [.bool (Fr.of 0).s,.slice Ae ne ce,.slice Be me de])
        have OF:=Hd ((OE8.out.stored (OE8.out.young hbe7) 0 [.bool (Fr.of 0).s,.slice Ae ne ce,.slice Be me de]).based (base':=w.heap.size) (by have:=HBB.out.size; omega))
        exact bodyPost_ret (v:=.tuple #[v7,.agg #[.bool (Fr.of 0).s,.slice Ae ne ce,.slice Be me de],.bool true]) (by simp [results,Tryz.results7,go_sem,z0,z1,z2]) rfl (by show OwnSE (alAns true (dts zs) ⟨ZA,ZB,ZP,ZQ,ZR⟩) w _ _; rw [HANS.out,HAD.out]; exact ⟨v7,(ys.take k ++ (⟨ZA,ZB,ZP,ZQ,ZR,.slice e0 m0 h0,.slice e1 m1 h1,.slice e2 m2 h2,.slice e3 m3 h3,.slice e4 m4 h4,.slice e5 m5 h5⟩ : Lr) :: ys.drop k),_,_,rfl,eD.out,⟨GF.out,OF.out,HFE.out,HFW.out⟩⟩)
end Go.Proofs.YtodoiekbjjiocaaGreat
