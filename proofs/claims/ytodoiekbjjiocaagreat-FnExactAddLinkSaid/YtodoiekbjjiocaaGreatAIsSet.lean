/- Links: IsLinkSet of both sides. Conditions: none. -/
import Derived.Test.YtodoiekbjjiocaaGreatAPk
import Derived.Test.YtodoiekbjjiocaaGreatALinks
import Derived.Test.YtodoiekbjjiocaaGreatALkCmp
namespace Go.Proofs.YtodoiekbjjiocaaGreat
open Go.RowKit Nt Fr
set_option linter.unusedVariables false
set_option maxRecDepth 100000
set_option maxHeartbeats 4000000
def Lr.ok (z : Lr) : Bool:=okK z.A z.B z.P z.Q z.R
def Lr.less (y z : Lr) : Bool:=lessK y.A y.B z.A z.B
def ascP (zs : List Lr) (k : Nat) : Prop:=∀ (i : Nat) (y z : Lr),i + 1 < k → zs[i]? = some y → zs[i + 1]? = some z → y.less z = true
def lessAt (zs : List Lr) (i : Nat) : Bool:=match zs[i]?,zs[i + 1]? with | some y,some z=>y.less z | _,_=>true
def ascB (zs : List Lr) : Bool:=(List.range zs.length).all (lessAt zs)
def validP (zs : List Lr) (k : Nat) : Prop:=∀ (i : Nat) (z : Lr),i < k → zs[i]? = some z → z.ok = true
def okSet (zs : List Lr) : Bool:=zs.all Lr.ok && ascB zs
theorem ascB_iff {zs : List Lr} : ascB zs = true ↔ ascP zs zs.length:=by
 unfold ascB
 rw [List.all_eq_true]
 constructor
 ·intro h i y z hi hy hz
  have:=h i (List.mem_range.mpr (by omega))
  unfold lessAt at this
  rw [hy,hz] at this
  exact this
 ·intro h i hi
  have hi':=List.mem_range.mp hi
  unfold lessAt
  cases hy : zs[i]? with
  | none=>rfl
  | some y=>
   cases hz : zs[i + 1]? with
   | none=>rfl
   | some z=>exact h i y z (List.getElem?_eq_some_iff.mp hz).1 hy hz
theorem valid_iff {zs : List Lr} : zs.all Lr.ok = true ↔ validP zs zs.length:=by
 rw [List.all_eq_true]
 constructor
 ·intro h i z hi hz; exact h z (List.mem_of_getElem? hz)
 ·intro h z hz
  obtain ⟨i,hi⟩:=List.mem_iff_getElem?.mp hz
  exact h i z (List.getElem?_eq_some_iff.mp hi).1 hi
theorem okSet_iff {zs : List Lr} : okSet zs = true ↔ (validP zs zs.length ∧ ascP zs zs.length):=by
 unfold okSet; rw [Bool.and_eq_true,valid_iff,ascB_iff]
theorem okSet_no {zs : List Lr} (h : ¬ (validP zs zs.length ∧ ascP zs zs.length)) : okSet zs = false:=by rw [← okSet_iff,Bool.not_eq_true] at h; exact h
theorem okSet_bad {zs : List Lr} {k : Nat} {z : Lr} (h : zs[k]? = some z) (hz : z.ok = false) : okSet zs = false:=okSet_no fun ⟨h1,_⟩=>by
 have:=h1 k z (List.getElem?_eq_some_iff.mp h).1 h
 rw [hz] at this; exact absurd this (by decide)
theorem asc_bad {zs : List Lr} {k : Nat} {y z : Lr} (h1 : zs[k]? = some y) (h2 : zs[k + 1]? = some z) (hl : y.less z = false) : ¬ ascP zs zs.length:=fun h=>by
 have:=h k y z (List.getElem?_eq_some_iff.mp h2).1 h1 h2
 rw [hl] at this; exact absurd this (by decide)
theorem asc_step {zs : List Lr} {k : Nat} {y z : Lr} (h : ascP zs (k + 1)) (h1 : zs[k]? = some y) (h2 : zs[k + 1]? = some z) (hl : y.less z = true) : ascP zs (k + 2):=by
 intro i a b hi ha hb
 by_cases e : i = k
 ·subst e
  obtain rfl:=Option.some.inj (h1.symm.trans ha)
  obtain rfl:=Option.some.inj (h2.symm.trans hb)
  exact hl
 ·exact h i a b (by omega) ha hb
theorem valid_step {zs : List Lr} {k : Nat} {z : Lr} (h : validP zs k) (h1 : zs[k]? = some z) (hl : z.ok = true) : validP zs (k + 1):=by
 intro i a hi ha
 by_cases e : i = k
 ·subst e
  obtain rfl:=Option.some.inj (h1.symm.trans ha)
  exact hl
 ·exact h i a (by omega) ha
theorem asc_le {zs : List Lr} {k : Nat} (h : k ≤ 1) : ascP zs k:=fun i y z hi=>by omega
theorem LkI_A {w : World} {base : Nat} {ys : List Lr} (h : Owns w base (rowsL ys)) : ∀ y ∈ ys,LkA w y.P y.Q y.R y.p0 y.p1 y.q0 y.q1 y.r0 y.r1:=by
 intro y hy
 have : Owns w base y.rows:=by
  obtain ⟨a,b,rfl⟩:=List.append_of_mem hy
  exact h.part (rowsL a) y.rows (rowsL b) (by simp [rowsL])
 exact this.lk
structure LArg (w : World) (A : Option Addr) (n : Nat) (zs : List Lr) : Prop where
 row : LRow w A n zs
 arg : ∀ z ∈ zs,LkA w z.P z.Q z.R z.p0 z.p1 z.q0 z.q1 z.r0 z.r1
theorem LArg.below {w w' : World} {A : Option Addr} {n : Nat} {zs : List Lr} (h : LArg w A n zs) (hb : Below w.heap.size w w') : LArg w' A n zs:=⟨h.row.below hb,fun z hz=>(h.arg z hz).below hb⟩
theorem LArg.at_ {w : World} {A : Option Addr} {n : Nat} {zs : List Lr} (h : LArg w A n zs) {k : Nat} (hk : k < n) : ∃ g o z,A = some ⟨g,o,none⟩ ∧ g < w.heap.size ∧ zs[k]? = some z ∧ LkA w z.P z.Q z.R z.p0 z.p1 z.q0 z.q1 z.r0 z.r1 ∧ ∀ (j : Nat) (v : Value),(z.cells)[j]? = some v → w.cell? ⟨g,o + k * 11 + j,none⟩ = some v:=by
 obtain ⟨g,o,z,e,hg,hz,_,hc⟩:=h.row.at_ hk
 exact ⟨g,o,z,e,hg,hz,h.arg z (List.mem_of_getElem? hz),hc⟩
theorem St.larg {w0 w : World} {bs : List (Nat × List Value)} {cs : List Chunk} (h : St w0 w bs cs) (i k : Nat) {b : Nat} {ys : List Lr} (e : bs[i]? = some (b,cellsL ys)) (e2 : cs[k]? = some (rowsL ys)) : LArg w (some ⟨b,0,none⟩) ys.length ys:=⟨h.lrow i k e e2,LkI_A (h.own k e2)⟩
theorem LArg.shapes {w : World} {z : Lr} (h : LkA w z.P z.Q z.R z.p0 z.p1 z.q0 z.q1 z.r0 z.r1) : ∃ A B P Q R a0 n0 c0 a1 n1 c1 a2 n2 c2 a3 n3 c3 a4 n4 c4 a5 n5 c5,z = ⟨A,B,P,Q,R,.slice a0 n0 c0,.slice a1 n1 c1,.slice a2 n2 c2,.slice a3 n3 c3,.slice a4 n4 c4,.slice a5 n5 c5⟩:=by
 obtain ⟨A,B,P,Q,R,p0,p1,q0,q1,r0,r1⟩:=z
 obtain ⟨a0,n0,c0,a1,n1,c1,h1,h2⟩:=h.p.shape
 obtain ⟨a2,n2,c2,a3,n3,c3,h3,h4⟩:=h.q.shape
 obtain ⟨a4,n4,c4,a5,n5,c5,h5,h6⟩:=h.r.shape
 simp only at h1 h2 h3 h4 h5 h6
 subst h1 h2 h3 h4 h5 h6
 exact ⟨_,_,_,_,_,_,_,_,_,_,_,_,_,_,_,_,_,_,_,_,_,_,_,rfl⟩
theorem isLinkSet_i (A : Option Addr) (n c : Nat) (zs : List Lr) (w : World) (hA : LArg w A n zs) (hn : n ≤ 1048576) (hasc : ∀ u : World,LArg u A n zs → Calls Tryz.prog 57 #[.slice A n c] u fun e w' =>e = .returned (.bool (ascB zs)) ∧ Below u.heap.size u w') :
 Calls Tryz.prog 30 #[.slice A n c] w fun e w' =>e = .returned (.bool (okSet zs)) ∧ Below w.heap.size w w':=by
 have HA:=Hd hA
 have HL:=Hd hA.row.1
 have HAS:=Hd hasc
 obtain ⟨ok,hok⟩ : ∃ z,okSet zs = z:=⟨_,rfl⟩
 rw [hok]
 have HOK:=Hd hok
 clear hA hasc hok
 go_enter Tryz.func30,Tryz.ntmps30
 go_wp2
 go_loopw [7] (fun i wr=>∃ k : Nat,k ≤ n ∧ i = .int .i64 k ∧ validP zs k ∧ Below w.heap.size w wr) (fun i _=>n - (intOf i).toNat)
 case atStart=>exact ⟨0,Nat.zero_le _,rfl,fun i z hi=>by omega,Below.refl _ _⟩
 case round=>
  obtain ⟨k,hk,rfl,hv,hb⟩:=hrel
  have HV:=Hd hv
  have aA:=Hd (show St w wr [] [] from ⟨hb,by simp,by simp,.nil,.nil,by simp⟩)
  clear hv hb
  by_cases hlt : k < n
  ·obtain ⟨g,o,z,rfl,hg,hz,hr,hc⟩:=(HA.out.below aA.out.below).at_ hlt
   obtain ⟨ZA,ZB,ZP,ZQ,ZR,a0,n0,c0,a1,n1,c1,a2,n2,c2,a3,n3,c3,a4,n4,c4,a5,n5,c5,rfl⟩:=LArg.shapes hr
   have HZ:=Hd hz
   have HR:=Hd (show LkA wr ZP ZQ ZR (.slice a0 n0 c0) (.slice a1 n1 c1) (.slice a2 n2 c2) (.slice a3 n3 c3) (.slice a4 n4 c4) (.slice a5 n5 c5) from hr)
   have d0 : wr.cell? ⟨g,o + k * 11,none⟩ = some (.int .i64 ZA):=hc 0 _ rfl
   have d1 : wr.cell? ⟨g,o + k * 11 + 1,none⟩ = some (.int .i64 ZB):=hc 1 _ rfl
   have d2 : wr.cell? ⟨g,o + k * 11 + 2,none⟩ = some (.bool ZP.s):=hc 2 _ rfl
   have d3 : wr.cell? ⟨g,o + k * 11 + 3,none⟩ = some ((.slice a0 n0 c0)):=hc 3 _ rfl
   have d4 : wr.cell? ⟨g,o + k * 11 + 4,none⟩ = some ((.slice a1 n1 c1)):=hc 4 _ rfl
   have d5 : wr.cell? ⟨g,o + k * 11 + 5,none⟩ = some (.bool ZQ.s):=hc 5 _ rfl
   have d6 : wr.cell? ⟨g,o + k * 11 + 6,none⟩ = some ((.slice a2 n2 c2)):=hc 6 _ rfl
   have d7 : wr.cell? ⟨g,o + k * 11 + 7,none⟩ = some ((.slice a3 n3 c3)):=hc 7 _ rfl
   have d8 : wr.cell? ⟨g,o + k * 11 + 8,none⟩ = some (.bool ZR.s):=hc 8 _ rfl
   have d9 : wr.cell? ⟨g,o + k * 11 + 9,none⟩ = some ((.slice a4 n4 c4)):=hc 9 _ rfl
   have d10 : wr.cell? ⟨g,o + k * 11 + 10,none⟩ = some ((.slice a5 n5 c5)):=hc 10 _ rfl
   clear hz hr hc
   go_wp2_with fail
   have aC:=Hd (aA.out.alloc [.int .i64 ZA,.int .i64 ZB,.bool ZP.s,(.slice a0 n0 c0),(.slice a1 n1 c1),.bool ZQ.s,(.slice a2 n2 c2),(.slice a3 n3 c3),.bool ZR.s,(.slice a4 n4 c4),(.slice a5 n5 c5)] 40)
   refine (isValidLink_i ZA ZB ZP ZQ ZR (.slice a0 n0 c0) (.slice a1 n1 c1) (.slice a2 n2 c2) (.slice a3 n3 c3) (.slice a4 n4 c4) (.slice a5 n5 c5) _ (HR.out.below ((Below.refl _ _).alloc (Nat.le_refl _) _))).mono ?_
   rintro e w1 ⟨rfl,hb⟩
   have aB:=Hd (aC.out.call hb)
   clear hb aC d0 d1 d2 d3 d4 d5 d6 d7 d8 d9 d10
   by_cases hz : okK ZA ZB ZP ZQ ZR = true
   ·rw [hz]
    have HV2:=Hd (valid_step HV.out HZ.out hz)
    clear hz
    go_wp2
    exact ⟨⟨k + 1,by omega,by go_num,HV2.out,aB.out.below⟩,by simp [intOf]; omega⟩
   ·rw [Bool.not_eq_true] at hz
    rw [hz]
    have HE:=Hd (show false = ok by rw [← HOK.out]; exact (okSet_bad HZ.out hz).symm)
    clear hz
    go_wp2
    go_ret
    exact ⟨ret_bool HE.out,aB.out.below⟩
  ·obtain rfl : k = n:=by omega
   go_wp2_with fail
   refine (HAS.out _ (HA.out.below aA.out.below)).mono ?_
   rintro e w1 ⟨rfl,hb⟩
   have aB:=Hd (aA.out.call hb)
   clear hb
   have HE:=Hd (show ascB zs = ok by
    rw [← HOK.out]
    have hv : zs.all Lr.ok = true:=valid_iff.mpr (by rw [HL.out]; exact HV.out)
    unfold okSet
    rw [hv,Bool.true_and])
   go_wp2
   go_ret
   exact ⟨ret_bool HE.out,aB.out.below⟩
theorem isAscending_f (A : Option Addr) (n c : Nat) (zs : List Lr) (w : World) (hA : LArg w A n zs) (hn : n ≤ 1048576) :
 Calls Tryz.prog 57 #[.slice A n c] w fun e w' =>e = .returned (.bool (ascB zs)) ∧ Below w.heap.size w w':=by
 have HA:=Hd hA
 have HL:=Hd hA.row.1
 obtain ⟨ok,hok⟩ : ∃ z,ascB zs = z:=⟨_,rfl⟩
 rw [hok]
 have HOK:=Hd hok
 clear hA hok
 have hm : ∀ (u : World) (v : Value),(method 250 40 v "loop.example/g00810/impl.compare").run Tryz.prog u = .ok (157,v) u:=fun _ _=>by kernel_rfl
 go_enter Tryz.func57,Tryz.ntmps57
 go_wp2
 go_loopw [3] (fun i wr=>∃ k : Nat,(k ≤ n ∨ k = 1) ∧ 1 ≤ k ∧ i = .int .i64 k ∧ ascP zs k ∧ Below w.heap.size w wr) (fun i _=>n - (intOf i).toNat)
 case atStart=>exact ⟨1,.inr rfl,Nat.le_refl _,rfl,asc_le (Nat.le_refl _),Below.refl _ _⟩
 case round=>
  obtain ⟨k1,hk,hk1,rfl,hv,hb⟩:=hrel
  obtain ⟨k,rfl⟩ : ∃ k,k1 = k + 1:=⟨k1 - 1,by omega⟩
  have HV:=Hd hv
  have HB:=Hd hb
  clear hv hb
  by_cases hlt : k + 1 < n
  ·obtain ⟨g,o,y,rfl,hg,hy,hry,hcy⟩:=(HA.out.below HB.out).at_ (show k < n by omega)
   obtain ⟨g',o',z,hgo,_,hz,hr,hc⟩:=(HA.out.below HB.out).at_ hlt
   obtain ⟨rfl,rfl⟩ : g = g' ∧ o = o':=by simpa using hgo
   obtain ⟨YA,YB,YP,YQ,YR,b0,m0,e0,b1,m1,e1,b2,m2,e2,b3,m3,e3,b4,m4,e4,b5,m5,e5,rfl⟩:=LArg.shapes hry
   obtain ⟨ZA,ZB,ZP,ZQ,ZR,a0,n0,c0,a1,n1,c1,a2,n2,c2,a3,n3,c3,a4,n4,c4,a5,n5,c5,rfl⟩:=LArg.shapes hr
   have HY:=Hd hy
   have HZ:=Hd hz
   have y0 : wr.cell? ⟨g,o + k * 11,none⟩ = some (.int .i64 YA):=hcy 0 _ rfl
   have y1 : wr.cell? ⟨g,o + k * 11 + 1,none⟩ = some (.int .i64 YB):=hcy 1 _ rfl
   have y2 : wr.cell? ⟨g,o + k * 11 + 2,none⟩ = some (.bool YP.s):=hcy 2 _ rfl
   have y3 : wr.cell? ⟨g,o + k * 11 + 3,none⟩ = some ((.slice b0 m0 e0)):=hcy 3 _ rfl
   have y4 : wr.cell? ⟨g,o + k * 11 + 4,none⟩ = some ((.slice b1 m1 e1)):=hcy 4 _ rfl
   have y5 : wr.cell? ⟨g,o + k * 11 + 5,none⟩ = some (.bool YQ.s):=hcy 5 _ rfl
   have y6 : wr.cell? ⟨g,o + k * 11 + 6,none⟩ = some ((.slice b2 m2 e2)):=hcy 6 _ rfl
   have y7 : wr.cell? ⟨g,o + k * 11 + 7,none⟩ = some ((.slice b3 m3 e3)):=hcy 7 _ rfl
   have y8 : wr.cell? ⟨g,o + k * 11 + 8,none⟩ = some (.bool YR.s):=hcy 8 _ rfl
   have y9 : wr.cell? ⟨g,o + k * 11 + 9,none⟩ = some ((.slice b4 m4 e4)):=hcy 9 _ rfl
   have y10 : wr.cell? ⟨g,o + k * 11 + 10,none⟩ = some ((.slice b5 m5 e5)):=hcy 10 _ rfl
   have d0 : wr.cell? ⟨g,o + (k + 1) * 11,none⟩ = some (.int .i64 ZA):=hc 0 _ rfl
   have d1 : wr.cell? ⟨g,o + (k + 1) * 11 + 1,none⟩ = some (.int .i64 ZB):=hc 1 _ rfl
   have d2 : wr.cell? ⟨g,o + (k + 1) * 11 + 2,none⟩ = some (.bool ZP.s):=hc 2 _ rfl
   have d3 : wr.cell? ⟨g,o + (k + 1) * 11 + 3,none⟩ = some ((.slice a0 n0 c0)):=hc 3 _ rfl
   have d4 : wr.cell? ⟨g,o + (k + 1) * 11 + 4,none⟩ = some ((.slice a1 n1 c1)):=hc 4 _ rfl
   have d5 : wr.cell? ⟨g,o + (k + 1) * 11 + 5,none⟩ = some (.bool ZQ.s):=hc 5 _ rfl
   have d6 : wr.cell? ⟨g,o + (k + 1) * 11 + 6,none⟩ = some ((.slice a2 n2 c2)):=hc 6 _ rfl
   have d7 : wr.cell? ⟨g,o + (k + 1) * 11 + 7,none⟩ = some ((.slice a3 n3 c3)):=hc 7 _ rfl
   have d8 : wr.cell? ⟨g,o + (k + 1) * 11 + 8,none⟩ = some (.bool ZR.s):=hc 8 _ rfl
   have d9 : wr.cell? ⟨g,o + (k + 1) * 11 + 9,none⟩ = some ((.slice a4 n4 c4)):=hc 9 _ rfl
   have d10 : wr.cell? ⟨g,o + (k + 1) * 11 + 10,none⟩ = some ((.slice a5 n5 c5)):=hc 10 _ rfl
   clear hz hr hc hy hry hcy hgo
   have hk0 : (0 : Int) ≤ (k : Int):=by omega
   have hk2 : (k : Int) < (n : Int):=by omega
   have hk3 : ((k + 1 : Nat) : Int) < (n : Int):=by omega
   have hk5 : (0 : Int) ≤ ((k + 1 : Nat) : Int):=by omega
   have hk4 : IntKind.i64.wrap (((k + 1 : Nat) : Int) - 1) = (k : Int):=by rw [IntKind.wrap_i64]; omega
   have hk6 : IntKind.i64.wrap (k : Int) = (k : Int):=by rw [IntKind.wrap_i64]; omega
   have hk7 : IntKind.i64.wrap ((k : Int) + 1 - 1) = (k : Int):=by rw [IntKind.wrap_i64]; omega
   have hk8 : (k : Int) + 1 < (n : Int):=by omega
   have hk9 : (0 : Int) ≤ (k : Int) + 1:=by omega
   obtain ⟨q,hq⟩ : ∃ z,cmpK YA YB ZA ZB = z:=⟨_,rfl⟩
   have HQ:=Hd hq
   clear hq
   go_wp2
   go_region_held3 (fun w' =>w'.cell? ⟨g,o + k * 11,none⟩ = some (.int .i64 YA) ∧ w'.cell? ⟨g,o + k * 11 + 1,none⟩ = some (.int .i64 YB) ∧ w'.cell? ⟨g,o + k * 11 + 2,none⟩ = some (.bool YP.s) ∧ w'.cell? ⟨g,o + k * 11 + 3,none⟩ = some ((.slice b0 m0 e0)) ∧ w'.cell? ⟨g,o + k * 11 + 4,none⟩ = some ((.slice b1 m1 e1)) ∧ w'.cell? ⟨g,o + k * 11 + 5,none⟩ = some (.bool YQ.s) ∧ w'.cell? ⟨g,o + k * 11 + 6,none⟩ = some ((.slice b2 m2 e2)) ∧ w'.cell? ⟨g,o + k * 11 + 7,none⟩ = some ((.slice b3 m3 e3)) ∧ w'.cell? ⟨g,o + k * 11 + 8,none⟩ = some (.bool YR.s) ∧ w'.cell? ⟨g,o + k * 11 + 9,none⟩ = some ((.slice b4 m4 e4)) ∧ w'.cell? ⟨g,o + k * 11 + 10,none⟩ = some ((.slice b5 m5 e5)) ∧ w'.cell? ⟨g,o + (k + 1) * 11,none⟩ = some (.int .i64 ZA) ∧ w'.cell? ⟨g,o + (k + 1) * 11 + 1,none⟩ = some (.int .i64 ZB) ∧ w'.cell? ⟨g,o + (k + 1) * 11 + 2,none⟩ = some (.bool ZP.s) ∧ w'.cell? ⟨g,o + (k + 1) * 11 + 3,none⟩ = some ((.slice a0 n0 c0)) ∧ w'.cell? ⟨g,o + (k + 1) * 11 + 4,none⟩ = some ((.slice a1 n1 c1)) ∧ w'.cell? ⟨g,o + (k + 1) * 11 + 5,none⟩ = some (.bool ZQ.s) ∧ w'.cell? ⟨g,o + (k + 1) * 11 + 6,none⟩ = some ((.slice a2 n2 c2)) ∧ w'.cell? ⟨g,o + (k + 1) * 11 + 7,none⟩ = some ((.slice a3 n3 c3)) ∧ w'.cell? ⟨g,o + (k + 1) * 11 + 8,none⟩ = some (.bool ZR.s) ∧ w'.cell? ⟨g,o + (k + 1) * 11 + 9,none⟩ = some ((.slice a4 n4 c4)) ∧ w'.cell? ⟨g,o + (k + 1) * 11 + 10,none⟩ = some ((.slice a5 n5 c5))) (go_keep)
    (first
      |(go_at_call 157
        refine (compareK_f YA YB YP YQ YR (.slice b0 m0 e0) (.slice b1 m1 e1) (.slice b2 m2 e2) (.slice b3 m3 e3) (.slice b4 m4 e4) (.slice b5 m5 e5) ZA ZB ZP ZQ ZR (.slice a0 n0 c0) (.slice a1 n1 c1) (.slice a2 n2 c2) (.slice a3 n3 c3) (.slice a4 n4 c4) (.slice a5 n5 c5) _).mono ?_
        rintro e w2 ⟨rfl,hb⟩
        rw [HQ.out]
        have HB2:=Hd (HB.out.drew.trans (hb.mono HB.out.drew.size))
        have p0:=(hb.cell (p:=⟨g,o + k * 11,none⟩) hg).trans y0
        have p1:=(hb.cell (p:=⟨g,o + k * 11 + 1,none⟩) hg).trans y1
        have p2:=(hb.cell (p:=⟨g,o + k * 11 + 2,none⟩) hg).trans y2
        have p3:=(hb.cell (p:=⟨g,o + k * 11 + 3,none⟩) hg).trans y3
        have p4:=(hb.cell (p:=⟨g,o + k * 11 + 4,none⟩) hg).trans y4
        have p5:=(hb.cell (p:=⟨g,o + k * 11 + 5,none⟩) hg).trans y5
        have p6:=(hb.cell (p:=⟨g,o + k * 11 + 6,none⟩) hg).trans y6
        have p7:=(hb.cell (p:=⟨g,o + k * 11 + 7,none⟩) hg).trans y7
        have p8:=(hb.cell (p:=⟨g,o + k * 11 + 8,none⟩) hg).trans y8
        have p9:=(hb.cell (p:=⟨g,o + k * 11 + 9,none⟩) hg).trans y9
        have p10:=(hb.cell (p:=⟨g,o + k * 11 + 10,none⟩) hg).trans y10
        have q0:=(hb.cell (p:=⟨g,o + (k + 1) * 11,none⟩) hg).trans d0
        have q1:=(hb.cell (p:=⟨g,o + (k + 1) * 11 + 1,none⟩) hg).trans d1
        have q2:=(hb.cell (p:=⟨g,o + (k + 1) * 11 + 2,none⟩) hg).trans d2
        have q3:=(hb.cell (p:=⟨g,o + (k + 1) * 11 + 3,none⟩) hg).trans d3
        have q4:=(hb.cell (p:=⟨g,o + (k + 1) * 11 + 4,none⟩) hg).trans d4
        have q5:=(hb.cell (p:=⟨g,o + (k + 1) * 11 + 5,none⟩) hg).trans d5
        have q6:=(hb.cell (p:=⟨g,o + (k + 1) * 11 + 6,none⟩) hg).trans d6
        have q7:=(hb.cell (p:=⟨g,o + (k + 1) * 11 + 7,none⟩) hg).trans d7
        have q8:=(hb.cell (p:=⟨g,o + (k + 1) * 11 + 8,none⟩) hg).trans d8
        have q9:=(hb.cell (p:=⟨g,o + (k + 1) * 11 + 9,none⟩) hg).trans d9
        have q10:=(hb.cell (p:=⟨g,o + (k + 1) * 11 + 10,none⟩) hg).trans d10
        clear hb))
   by_cases hq0 : 0 ≤ q
   ·have HE:=Hd (show false = ok by
     rw [← HOK.out]
     have hl : lessK YA YB ZA ZB = false:=by
      rw [← Bool.not_eq_true,← cmpK_less,HQ.out]; omega
     have:=asc_bad HY.out HZ.out hl
     rw [← ascB_iff,Bool.not_eq_true] at this
     exact this.symm)
    go_wp2
    go_ret
    exact ⟨ret_bool HE.out,HB2.out⟩
   ·have HV2:=Hd (asc_step HV.out HY.out HZ.out (by show lessK YA YB ZA ZB = true; rw [← cmpK_less,HQ.out]; omega))
    go_wp2
    exact ⟨⟨k + 2,by omega,by omega,by go_num,HV2.out,HB2.out⟩,by simp [intOf]; omega⟩
  ·have HE:=Hd (show true = ok by
    rw [← HOK.out]
    exact (ascB_iff.mpr (by
     by_cases h : n ≤ 1
     ·exact asc_le (by rw [HL.out]; exact h)
     ·rw [HL.out,show n = k + 1 by omega]; exact HV.out)).symm)
   go_wp2
   go_ret
   exact ⟨ret_bool HE.out,HB.out⟩
end Go.Proofs.YtodoiekbjjiocaaGreat
