/- Slices of links: how they read, and the laws' own helpers szLinkS, toLinkS, eqLinkS. Conditions: none. -/
import Derived.Test.YtodoiekbjjiocaaGreatJPk
import Derived.Test.YtodoiekbjjiocaaGreatJLkBase
namespace Go.Proofs.YtodoiekbjjiocaaGreat
open Go.RowKit Nt Fr
set_option linter.unusedVariables false
set_option maxRecDepth 100000
set_option maxHeartbeats 4000000
structure Lr where
 A : Int
 B : Int
 P : Fr
 Q : Fr
 R : Fr
 p0 : Value
 p1 : Value
 q0 : Value
 q1 : Value
 r0 : Value
 r1 : Value
namespace Lr
def cells (z : Lr) : List Value:=[.int .i64 z.A,.int .i64 z.B,.bool z.P.s,z.p0,z.p1,.bool z.Q.s,z.q0,z.q1,.bool z.R.s,z.r0,z.r1]
def rows (z : Lr) : Chunk:=rowsK z.P z.Q z.R z.p0 z.p1 z.q0 z.q1 z.r0 z.r1
def len (z : Lr) : Nat:=z.P.len + z.Q.len + z.R.len
def rd (w : World) (z : Lr) : Prop:=LkI w z.P z.Q z.R z.p0 z.p1 z.q0 z.q1 z.r0 z.r1
def like (y z : Lr) : Prop:=y.A = z.A ∧ y.B = z.B ∧ y.P = z.P ∧ y.Q = z.Q ∧ y.R = z.R
end Lr
def LRow (w : World) (A : Option Addr) (n : Nat) (zs : List Lr) : Prop :=
 zs.length = n ∧ (0 < n → ∃ g o,A = some ⟨g,o,none⟩ ∧ g < w.heap.size ∧ ∀ k (hk : k < zs.length) (j : Nat) (v : Value),(zs[k].cells)[j]? = some v → w.cell? ⟨g,o + k * 11 + j,none⟩ = some v) ∧ ∀ z ∈ zs,z.rd w
section
variable {w w' : World} {A : Option Addr} {n : Nat} {zs : List Lr}
theorem LRow.below (h : LRow w A n zs) (hb : Below w.heap.size w w') : LRow w' A n zs:=by
 refine ⟨h.1,fun hn=>?_,fun z hz=>(h.2.2 z hz).below hb⟩
 obtain ⟨g,o,rfl,hg,hc⟩:=h.2.1 hn
 exact ⟨g,o,rfl,Nat.lt_of_lt_of_le hg hb.size,fun k hk j v hj=>(hb.cell (p:=⟨g,o + k * 11 + j,none⟩) hg).trans (hc k hk j v hj)⟩
theorem LRow.at_ (h : LRow w A n zs) {k : Nat} (hk : k < n) : ∃ g o z,A = some ⟨g,o,none⟩ ∧ g < w.heap.size ∧ zs[k]? = some z ∧ z.rd w ∧ ∀ (j : Nat) (v : Value),(z.cells)[j]? = some v → w.cell? ⟨g,o + k * 11 + j,none⟩ = some v:=by
 obtain ⟨g,o,e,hg,hc⟩:=h.2.1 (by omega)
 have hk' : k < zs.length:=by rw [h.1]; exact hk
 exact ⟨g,o,zs[k],e,hg,List.getElem?_eq_getElem hk',h.2.2 _ (List.getElem_mem hk'),hc k hk'⟩
end
def IsLinks (w : World) (a : Option Addr) (len cap : Nat) (zs : List Lr) : Prop:=LRow w a len zs ∧ len ≤ cap ∧ cap ≤ maxLen
def lensL : List Lr → Nat
 | []=>0
 | z :: zs=>z.len + lensL zs
theorem lensL_app (a b : List Lr) : lensL (a ++ b) = lensL a + lensL b:=by
 induction a with
 | nil=>simp [lensL]
 | cons z r ih=>simp [lensL,ih]; omega
theorem lensL_take_succ {zs : List Lr} {k : Nat} {z : Lr} (h : zs[k]? = some z) : lensL (zs.take (k + 1)) = lensL (zs.take k) + z.len:=by
 obtain ⟨hk,e⟩:=List.getElem?_eq_some_iff.mp h
 rw [List.take_succ_eq_append_getElem hk,lensL_app,e]; simp [lensL]
theorem lensL_take_le (zs : List Lr) (k : Nat) : lensL (zs.take k) ≤ lensL zs:=by
 have:=lensL_app (zs.take k) (zs.drop k)
 rw [List.take_append_drop] at this; omega
theorem len_le {zs : List Lr} {k : Nat} {z : Lr} (h : zs[k]? = some z) : z.len ≤ lensL zs:=by
 have h1:=lensL_take_succ h
 have h2:=lensL_take_le zs (k + 1)
 omega
theorem szLinkS_any (A : Option Addr) (n c : Nat) (zs : List Lr) (k : Int) (w : World) (h0 : 0 ≤ k) (h1 : k ≤ 1048576) (hA : LRow w A n zs) (hn : n ≤ 9223372036854775807) :
 Calls Tryz.prog 5 #[.slice A n c,.int .i64 k] w fun e w' =>e = .returned (.int .i64 (szOf k (n + lensL zs))) ∧ Below w.heap.size w w':=by
 have HA:=Hd hA
 clear hA
 by_cases h : k < n
 ·rw [szOf_neg (show k < ((n + lensL zs : Nat) : Int) by omega)]
  go_enter Tryz.func5,Tryz.ntmps5
  go_wp2
  go_ret
  exact ⟨rfl,Below.refl _ _⟩
 ·go_enter Tryz.func5,Tryz.ntmps5
  go_wp2
  go_loopw [5,1] (fun i l wr=>∃ (j : Nat) (m : Int),j ≤ n ∧ i = .int .i64 j ∧ l = .int .i64 m ∧ m = k - n - (lensL (zs.take j) : Int) ∧ 0 ≤ m ∧ Below w.heap.size w wr) (fun i _ _=>n - (intOf i).toNat)
  case atStart=>exact ⟨0,k - n,Nat.zero_le _,rfl,rfl,by simp [lensL],by omega,Below.refl _ _⟩
  case round=>
   obtain ⟨j,m,hj,rfl,rfl,hm,hm0,hb⟩:=hrel
   have HB:=Hd hb
   have HM:=Hd hm
   have hm1 : m ≤ 1048576:=by omega
   clear hb hm
   by_cases hlt : j < n
   ·obtain ⟨g,o,z,rfl,hg,hz,hr,hc⟩:=(HA.out.below HB.out).at_ hlt
    have HZ:=Hd hz
    have HR:=Hd hr
    clear hz hr
    have c0 : wr.cell? ⟨g,o + j * 11,none⟩ = some (.int .i64 z.A):=hc 0 _ rfl
    have c1 : wr.cell? ⟨g,o + j * 11 + 1,none⟩ = some (.int .i64 z.B):=hc 1 _ rfl
    have c2 : wr.cell? ⟨g,o + j * 11 + 2,none⟩ = some (.bool z.P.s):=hc 2 _ rfl
    have c3 : wr.cell? ⟨g,o + j * 11 + 3,none⟩ = some (z.p0):=hc 3 _ rfl
    have c4 : wr.cell? ⟨g,o + j * 11 + 4,none⟩ = some (z.p1):=hc 4 _ rfl
    have c5 : wr.cell? ⟨g,o + j * 11 + 5,none⟩ = some (.bool z.Q.s):=hc 5 _ rfl
    have c6 : wr.cell? ⟨g,o + j * 11 + 6,none⟩ = some (z.q0):=hc 6 _ rfl
    have c7 : wr.cell? ⟨g,o + j * 11 + 7,none⟩ = some (z.q1):=hc 7 _ rfl
    have c8 : wr.cell? ⟨g,o + j * 11 + 8,none⟩ = some (.bool z.R.s):=hc 8 _ rfl
    have c9 : wr.cell? ⟨g,o + j * 11 + 9,none⟩ = some (z.r0):=hc 9 _ rfl
    have c10 : wr.cell? ⟨g,o + j * 11 + 10,none⟩ = some (z.r1):=hc 10 _ rfl
    clear hc
    go_wp2_with fail
    refine (szLink_f z.A z.B z.P z.Q z.R z.p0 z.p1 z.q0 z.q1 z.r0 z.r1 _ m hm0 hm1 HR.out).mono ?_
    rintro e w2 ⟨rfl,hb⟩
    have HB2:=Hd (HB.out.trans (hb.mono HB.out.size))
    clear hb c0 c1 c2 c3 c4 c5 c6 c7 c8 c9 c10
    have e1:=lensL_take_succ HZ.out
    have e2:=lensL_take_le zs (j + 1)
    have hlen : z.P.len + z.Q.len + z.R.len = z.len:=rfl
    rw [hlen]
    by_cases hs : m < (z.len : Int)
    ·rw [szOf_neg hs]
     have HE:=Hd (show szOf k (n + lensL zs) = -1 from szOf_neg (by have:=HM.out; omega))
     clear e1 e2 hs hlen
     go_wp2
     go_ret
     exact ⟨ret_int HE.out.symm,HB2.out⟩
    ·rw [szOf_pos hs]
     have HE:=Hd (show m - (z.len : Int) = k - n - (lensL (zs.take (j + 1)) : Int) by have:=HM.out; omega)
     obtain ⟨m2,hm2⟩ : ∃ q : Int,m - (z.len : Int) = q:=⟨_,rfl⟩
     have hm3 : 0 ≤ m2:=by omega
     rw [hm2] at HE ⊢
     clear e1 e2 hs hlen hm2
     go_wp2
     exact ⟨⟨j + 1,m2,by omega,by go_num,rfl,HE.out,hm3,HB2.out⟩,by simp [intOf]; omega⟩
   ·obtain rfl : j = n:=by omega
    have hl : zs.take j = zs:=by rw [List.take_of_length_le (by rw [HA.out.1]; exact Nat.le_refl _)]
    have HE:=Hd (show m = szOf k (j + lensL zs) by rw [szOf_pos (by have:=HM.out; rw [hl] at this; omega)]; have:=HM.out; rw [hl] at this; omega)
    clear hl
    go_wp2
    go_ret
    exact ⟨ret_int HE.out,HB.out⟩
theorem eqLinkS_same (A B : Option Addr) (n c d : Nat) (ys zs : List Lr) (w : World) (hA : LRow w A n ys) (hB : LRow w B n zs) (hlk : ∀ (i : Nat) (y z : Lr),ys[i]? = some y → zs[i]? = some z → y.like z) (hn : n ≤ 1048576) :
 Calls Tryz.prog 11 #[.slice A n c,.slice B n d] w fun e w' =>e = .returned (.bool true) ∧ Below w.heap.size w w':=by
 have HA:=Hd hA
 have HB:=Hd hB
 have HK:=Hd hlk
 clear hA hB hlk
 go_enter Tryz.func11,Tryz.ntmps11
 go_wp2
 go_loopw [5] (fun i wr=>∃ k : Nat,k ≤ n ∧ i = .int .i64 k ∧ Below w.heap.size w wr) (fun i _=>n - (intOf i).toNat)
 case atStart=>exact ⟨0,Nat.zero_le _,rfl,Below.refl _ _⟩
 case round=>
  obtain ⟨k,hk,rfl,hb⟩:=hrel
  have HW:=Hd hb
  clear hb
  by_cases hlt : k < n
  ·obtain ⟨g,o,y,rfl,hg,hy,hry,hc⟩:=(HA.out.below HW.out).at_ hlt
   obtain ⟨g',o',z,rfl,hg',hz,hrz,hd⟩:=(HB.out.below HW.out).at_ hlt
   have hl:=HK.out k y z hy hz
   clear hy hz
   obtain ⟨YA,YB,YP,YQ,YR,y0,y1,y2,y3,y4,y5⟩:=y
   obtain ⟨ZA,ZB,ZP,ZQ,ZR,z0,z1,z2,z3,z4,z5⟩:=z
   obtain ⟨e1,e2,e3,e4,e5⟩:=hl
   simp only at e1 e2 e3 e4 e5
   subst e1 e2 e3 e4 e5
   have HRY:=Hd (show LkI wr YP YQ YR y0 y1 y2 y3 y4 y5 from hry)
   have HRZ:=Hd (show LkI wr YP YQ YR z0 z1 z2 z3 z4 z5 from hrz)
   have hk0 : (0 : Int) ≤ (k : Int):=by omega
   have hk1 : (k : Int) < (n : Int):=by omega
   have c0 : wr.cell? ⟨g,o + k * 11,none⟩ = some (.int .i64 YA):=hc 0 _ rfl
   have c1 : wr.cell? ⟨g,o + k * 11 + 1,none⟩ = some (.int .i64 YB):=hc 1 _ rfl
   have c2 : wr.cell? ⟨g,o + k * 11 + 2,none⟩ = some (.bool YP.s):=hc 2 _ rfl
   have c3 : wr.cell? ⟨g,o + k * 11 + 3,none⟩ = some (y0):=hc 3 _ rfl
   have c4 : wr.cell? ⟨g,o + k * 11 + 4,none⟩ = some (y1):=hc 4 _ rfl
   have c5 : wr.cell? ⟨g,o + k * 11 + 5,none⟩ = some (.bool YQ.s):=hc 5 _ rfl
   have c6 : wr.cell? ⟨g,o + k * 11 + 6,none⟩ = some (y2):=hc 6 _ rfl
   have c7 : wr.cell? ⟨g,o + k * 11 + 7,none⟩ = some (y3):=hc 7 _ rfl
   have c8 : wr.cell? ⟨g,o + k * 11 + 8,none⟩ = some (.bool YR.s):=hc 8 _ rfl
   have c9 : wr.cell? ⟨g,o + k * 11 + 9,none⟩ = some (y4):=hc 9 _ rfl
   have c10 : wr.cell? ⟨g,o + k * 11 + 10,none⟩ = some (y5):=hc 10 _ rfl
   have d0 : wr.cell? ⟨g',o' + k * 11,none⟩ = some (.int .i64 YA):=hd 0 _ rfl
   have d1 : wr.cell? ⟨g',o' + k * 11 + 1,none⟩ = some (.int .i64 YB):=hd 1 _ rfl
   have d2 : wr.cell? ⟨g',o' + k * 11 + 2,none⟩ = some (.bool YP.s):=hd 2 _ rfl
   have d3 : wr.cell? ⟨g',o' + k * 11 + 3,none⟩ = some (z0):=hd 3 _ rfl
   have d4 : wr.cell? ⟨g',o' + k * 11 + 4,none⟩ = some (z1):=hd 4 _ rfl
   have d5 : wr.cell? ⟨g',o' + k * 11 + 5,none⟩ = some (.bool YQ.s):=hd 5 _ rfl
   have d6 : wr.cell? ⟨g',o' + k * 11 + 6,none⟩ = some (z2):=hd 6 _ rfl
   have d7 : wr.cell? ⟨g',o' + k * 11 + 7,none⟩ = some (z3):=hd 7 _ rfl
   have d8 : wr.cell? ⟨g',o' + k * 11 + 8,none⟩ = some (.bool YR.s):=hd 8 _ rfl
   have d9 : wr.cell? ⟨g',o' + k * 11 + 9,none⟩ = some (z4):=hd 9 _ rfl
   have d10 : wr.cell? ⟨g',o' + k * 11 + 10,none⟩ = some (z5):=hd 10 _ rfl
   clear hc hd hry hrz
   go_wp2
   go_region_held3 (fun w' =>w'.cell? ⟨g,o + k * 11,none⟩ = some (.int .i64 YA) ∧ w'.cell? ⟨g,o + k * 11 + 1,none⟩ = some (.int .i64 YB) ∧ w'.cell? ⟨g,o + k * 11 + 2,none⟩ = some (.bool YP.s) ∧ w'.cell? ⟨g,o + k * 11 + 3,none⟩ = some (y0) ∧ w'.cell? ⟨g,o + k * 11 + 4,none⟩ = some (y1) ∧ w'.cell? ⟨g,o + k * 11 + 5,none⟩ = some (.bool YQ.s) ∧ w'.cell? ⟨g,o + k * 11 + 6,none⟩ = some (y2) ∧ w'.cell? ⟨g,o + k * 11 + 7,none⟩ = some (y3) ∧ w'.cell? ⟨g,o + k * 11 + 8,none⟩ = some (.bool YR.s) ∧ w'.cell? ⟨g,o + k * 11 + 9,none⟩ = some (y4) ∧ w'.cell? ⟨g,o + k * 11 + 10,none⟩ = some (y5) ∧ w'.cell? ⟨g',o' + k * 11,none⟩ = some (.int .i64 YA) ∧ w'.cell? ⟨g',o' + k * 11 + 1,none⟩ = some (.int .i64 YB) ∧ w'.cell? ⟨g',o' + k * 11 + 2,none⟩ = some (.bool YP.s) ∧ w'.cell? ⟨g',o' + k * 11 + 3,none⟩ = some (z0) ∧ w'.cell? ⟨g',o' + k * 11 + 4,none⟩ = some (z1) ∧ w'.cell? ⟨g',o' + k * 11 + 5,none⟩ = some (.bool YQ.s) ∧ w'.cell? ⟨g',o' + k * 11 + 6,none⟩ = some (z2) ∧ w'.cell? ⟨g',o' + k * 11 + 7,none⟩ = some (z3) ∧ w'.cell? ⟨g',o' + k * 11 + 8,none⟩ = some (.bool YR.s) ∧ w'.cell? ⟨g',o' + k * 11 + 9,none⟩ = some (z4) ∧ w'.cell? ⟨g',o' + k * 11 + 10,none⟩ = some (z5)) (go_keep)
    (first
      |(go_at_call 13
        refine (eqLink_f YA YB YP YQ YR y0 y1 y2 y3 y4 y5 z0 z1 z2 z3 z4 z5 _ (HRY.out.below ((Below.refl _ _).drew)) (HRZ.out.below ((Below.refl _ _).drew))).mono ?_
        rintro e w2 ⟨rfl,hb⟩
        have HW2:=Hd (HW.out.drew.trans (hb.mono HW.out.drew.size))
        have ec0:=(hb.cell (p:=⟨g,o + k * 11,none⟩) hg).trans c0
        have ec1:=(hb.cell (p:=⟨g,o + k * 11 + 1,none⟩) hg).trans c1
        have ec2:=(hb.cell (p:=⟨g,o + k * 11 + 2,none⟩) hg).trans c2
        have ec3:=(hb.cell (p:=⟨g,o + k * 11 + 3,none⟩) hg).trans c3
        have ec4:=(hb.cell (p:=⟨g,o + k * 11 + 4,none⟩) hg).trans c4
        have ec5:=(hb.cell (p:=⟨g,o + k * 11 + 5,none⟩) hg).trans c5
        have ec6:=(hb.cell (p:=⟨g,o + k * 11 + 6,none⟩) hg).trans c6
        have ec7:=(hb.cell (p:=⟨g,o + k * 11 + 7,none⟩) hg).trans c7
        have ec8:=(hb.cell (p:=⟨g,o + k * 11 + 8,none⟩) hg).trans c8
        have ec9:=(hb.cell (p:=⟨g,o + k * 11 + 9,none⟩) hg).trans c9
        have ec10:=(hb.cell (p:=⟨g,o + k * 11 + 10,none⟩) hg).trans c10
        have ed0:=(hb.cell (p:=⟨g',o' + k * 11,none⟩) hg').trans d0
        have ed1:=(hb.cell (p:=⟨g',o' + k * 11 + 1,none⟩) hg').trans d1
        have ed2:=(hb.cell (p:=⟨g',o' + k * 11 + 2,none⟩) hg').trans d2
        have ed3:=(hb.cell (p:=⟨g',o' + k * 11 + 3,none⟩) hg').trans d3
        have ed4:=(hb.cell (p:=⟨g',o' + k * 11 + 4,none⟩) hg').trans d4
        have ed5:=(hb.cell (p:=⟨g',o' + k * 11 + 5,none⟩) hg').trans d5
        have ed6:=(hb.cell (p:=⟨g',o' + k * 11 + 6,none⟩) hg').trans d6
        have ed7:=(hb.cell (p:=⟨g',o' + k * 11 + 7,none⟩) hg').trans d7
        have ed8:=(hb.cell (p:=⟨g',o' + k * 11 + 8,none⟩) hg').trans d8
        have ed9:=(hb.cell (p:=⟨g',o' + k * 11 + 9,none⟩) hg').trans d9
        have ed10:=(hb.cell (p:=⟨g',o' + k * 11 + 10,none⟩) hg').trans d10
        clear hb))
   all_goals go_wp2
   all_goals exact ⟨⟨k + 1,by omega,by go_num,HW2.out⟩,by simp [intOf]; omega⟩
  ·go_wp2
   go_ret
   exact ⟨rfl,HW.out⟩
theorem St.join {w0 w : World} {bs : List (Nat × List Value)} {cs : List Chunk} {l m : Chunk} (h : St w0 w bs (l :: m :: cs)) : St w0 w bs ((m ++ l) :: cs):=by
 have hc:=List.pairwise_cons.mp h.cc
 have hd:=List.pairwise_cons.mp hc.2
 refine ⟨h.below,h.box,fun q hq=>?_,h.bb,List.pairwise_cons.mpr ⟨fun q hq p hp=>?_,hd.2⟩,fun p hp q hq r hr=>?_⟩
 ·rcases List.mem_cons.mp hq with rfl | a
  ·exact (h.row m (by simp)).app (h.row l (by simp)) ((hc.1 m (by simp)).symm)
  ·exact h.row q (by simp [a])
 ·rcases List.mem_append.mp hp with a | a
  ·exact hd.1 q hq p a
  ·exact hc.1 q (by simp [hq]) p a
 ·rcases List.mem_cons.mp hq with rfl | a
  ·rcases List.mem_append.mp hr with a | a
   ·exact h.br p hp m (by simp) r a
   ·exact h.br p hp l (by simp) r a
  ·exact h.br p hp q (by simp [a]) r hr
def zerosK : Nat → List Value
 | 0=>[]
 | n + 1=>[.int .i64 0,.int .i64 0,.bool false,.slice none 0 0,.slice none 0 0,.bool false,.slice none 0 0,.slice none 0 0,.bool false,.slice none 0 0,.slice none 0 0] ++ zerosK n
theorem zerosK_len (n : Nat) : (zerosK n).length = n * 11:=by
 induction n with
 | zero=>rfl
 | succ n ih=>simp [zerosK,ih]; omega
def cellsL (ys : List Lr) : List Value:=ys.flatMap Lr.cells
def rowsL (ys : List Lr) : Chunk:=ys.flatMap Lr.rows
theorem cellsL_len (ys : List Lr) : (cellsL ys).length = ys.length * 11:=by
 induction ys with
 | nil=>rfl
 | cons y r ih=>simp [cellsL] at ih ⊢; rw [ih]; simp [Lr.cells]; omega
theorem cellsL_at {ys : List Lr} {k : Nat} {y : Lr} (h : ys[k]? = some y) (j : Nat) {v : Value} (hj : y.cells[j]? = some v) : (cellsL ys)[k * 11 + j]? = some v:=by
 induction ys generalizing k with
 | nil=>simp at h
 | cons x r ih=>
  have hl : x.cells.length = 11:=rfl
  have hj11 : j < 11:=by have:=(List.getElem?_eq_some_iff.mp hj).1; simpa [Lr.cells] using this
  cases k with
  | zero=>
   simp at h; subst h
   rw [show cellsL (x :: r) = x.cells ++ cellsL r by simp [cellsL],Nat.zero_mul,Nat.zero_add,List.getElem?_append_left (by omega)]; exact hj
  | succ k=>
   simp at h
   rw [show cellsL (x :: r) = x.cells ++ cellsL r by simp [cellsL],List.getElem?_append_right (by omega),hl,show (k + 1) * 11 + j - 11 = k * 11 + j by omega]
   exact ih h
def OwnL (zs : List Lr) (w : World) (e : Ending) (w' : World) : Prop :=
 ∃ b ys,e = .returned (.slice (some ⟨b,0,none⟩) zs.length zs.length) ∧ ys.length = zs.length ∧ (∀ (i : Nat) (y z : Lr),ys[i]? = some y → zs[i]? = some z → y.like z) ∧ St w w' [(b,cellsL ys)] [rowsL ys]
theorem rowsL_rd {w : World} {base : Nat} {ys : List Lr} (h : Owns w base (rowsL ys)) : ∀ y ∈ ys,y.rd w:=by
 intro y hy
 have : Owns w base y.rows:=by
  obtain ⟨a,b,rfl⟩:=List.append_of_mem hy
  exact h.part (rowsL a) y.rows (rowsL b) (by simp [rowsL])
 exact this.lk.i
theorem St.lrow {w0 w : World} {bs : List (Nat × List Value)} {cs : List Chunk} (h : St w0 w bs cs) (i k : Nat) {b : Nat} {ys : List Lr} (e : bs[i]? = some (b,cellsL ys)) (e2 : cs[k]? = some (rowsL ys)) : LRow w (some ⟨b,0,none⟩) ys.length ys :=
 ⟨rfl,fun _=>⟨b,0,rfl,h.lt i e,fun m hm j v hj=>by rw [Nat.zero_add]; exact h.cell i _ e (cellsL_at (List.getElem?_eq_getElem hm) j hj)⟩,rowsL_rd (h.own k e2)⟩
theorem info_link : (Tryz.prog.info? 40).map (fun i=>(i.zero,i.size,i.bytes)) = some (some (.agg #[.int .i64 0,.int .i64 0,.bool false,.slice none 0 0,.slice none 0 0,.bool false,.slice none 0 0,.slice none 0 0,.bool false,.slice none 0 0,.slice none 0 0]),11,184):=by kernel_rfl
theorem zerosK_at (n i : Nat) (h : i < n * 11) : (zerosK n)[i]? = some ((#[.int .i64 0,.int .i64 0,.bool false,.slice none 0 0,.slice none 0 0,.bool false,.slice none 0 0,.slice none 0 0,.bool false,.slice none 0 0,.slice none 0 0] : Array Value)[i % 11]!):=by
 induction n generalizing i with
 | zero=>omega
 | succ n ih=>
  by_cases hi : i < 11
  ·rw [show zerosK (n + 1) = [.int .i64 0,.int .i64 0,.bool false,.slice none 0 0,.slice none 0 0,.bool false,.slice none 0 0,.slice none 0 0,.bool false,.slice none 0 0,.slice none 0 0] ++ zerosK n from rfl,List.getElem?_append_left (by simpa using hi),Nat.mod_eq_of_lt hi]
   match i,hi with
   | 0,_=>rfl
   | 1,_=>rfl
   | 2,_=>rfl
   | 3,_=>rfl
   | 4,_=>rfl
   | 5,_=>rfl
   | 6,_=>rfl
   | 7,_=>rfl
   | 8,_=>rfl
   | 9,_=>rfl
   | 10,_=>rfl
  ·rw [show zerosK (n + 1) = [.int .i64 0,.int .i64 0,.bool false,.slice none 0 0,.slice none 0 0,.bool false,.slice none 0 0,.slice none 0 0,.bool false,.slice none 0 0,.slice none 0 0] ++ zerosK n from rfl,List.getElem?_append_right (by simpa using hi)]
   have:=ih (i - 11) (by omega)
   rw [show ([.int .i64 0,.int .i64 0,.bool false,.slice none 0 0,.slice none 0 0,.bool false,.slice none 0 0,.slice none 0 0,.bool false,.slice none 0 0,.slice none 0 0] : List Value).length = 11 from rfl,this,show (i - 11) % 11 = i % 11 by omega]
theorem made_zeros (n : Nat) : (madeCells (Value.agg #[.int .i64 0,.int .i64 0,.bool false,.slice none 0 0,.slice none 0 0,.bool false,.slice none 0 0,.slice none 0 0,.bool false,.slice none 0 0,.slice none 0 0]).cells (n * 11)).toList = zerosK n:=by
 apply List.ext_getElem?
 intro i
 by_cases hi : i < n * 11
 ·rw [zerosK_at n i hi]
  simp [madeCells,hi,Value.cells]
 ·rw [List.getElem?_eq_none (by simp [madeCells]; omega),List.getElem?_eq_none (by rw [zerosK_len]; omega)]
theorem mid_at {X rest : List Value} {m : Nat} (hX : X.length = m) (i : Nat) {v : Value} (hv : ([.int .i64 0,.int .i64 0,.bool false,.slice none 0 0,.slice none 0 0,.bool false,.slice none 0 0,.slice none 0 0,.bool false,.slice none 0 0,.slice none 0 0] : List Value)[i]? = some v) : (X ++ ([.int .i64 0,.int .i64 0,.bool false,.slice none 0 0,.slice none 0 0,.bool false,.slice none 0 0,.slice none 0 0,.bool false,.slice none 0 0,.slice none 0 0] ++ rest))[m + i]? = some v:=by
 subst hX
 have hi : i < 11:=by have:=(List.getElem?_eq_some_iff.mp hv).1; simpa using this
 rw [List.getElem?_append_right (by omega),Nat.add_sub_cancel_left,List.getElem?_append_left (by simpa using hi)]; exact hv
theorem toLinkS_any (A : Option Addr) (n c : Nat) (zs : List Lr) (w : World) (hA : LRow w A n zs) (hn : n + lensL zs ≤ 1048576) :
 Calls Tryz.prog 8 #[.slice A n c] w (OwnL zs w):=by
 obtain ⟨i0,hi,hz0,hz1,hz2⟩:=info_parts info_link
 have HL:=Hd hA.1
 have HA:=Hd hA
 have HN:=Hd hn
 have hn' : n ≤ 1048576:=by omega
 clear hA hn
 go_enter Tryz.func8,Tryz.ntmps8
 go_wp2_with (at_make; refine wpList_make_full _ rfl _ _ _ rfl w.heap.size 40 i0 _ 11 Tryz.underlying32 hi hz0 hz1 .i64 .i64 _ _ n rfl rfl rfl rfl (by rw [hz2]; omega) (by unfold maxLen; omega) (Nat.le_refl _) ?_; intro w1 hown hgrow)
 rw [made_zeros] at hown
 have hP : HeldL w1 w.heap.size (zerosK n):=by
  refine ⟨(hown.lt w.heap.size rfl).2,fun j v hj=>?_,fun j v hj=>hown.frozenAt j⟩
  have hj':=(List.getElem?_eq_some_iff.mp hj).1
  rw [zerosK_len] at hj'
  rw [hown.cellAt j (by omega)]; exact hj
 have aE:=Hd (((St.start w).boxed ((Below.refl w.heap.size w).grown hgrow (Nat.le_refl _) (by simp)) hP (Nat.le_refl _)).nils 0)
 clear hown hgrow hP hi hz0 hz1 hz2
 go_wp2
 go_loopw [4] (fun i wr=>∃ (j : Nat) (ys : List Lr),j ≤ n ∧ i = .int .i64 j ∧ ys.length = j ∧ (∀ (q : Nat) (y z : Lr),ys[q]? = some y → zs[q]? = some z → y.like z) ∧ St w wr [(w.heap.size,cellsL ys ++ zerosK (n - j))] [rowsL ys]) (fun i _=>n - (intOf i).toNat)
 case atStart=>exact ⟨0,[],Nat.zero_le _,rfl,rfl,by simp,aE.out⟩
 case round=>
  obtain ⟨j,ys,hj,rfl,hy,hlk,hst⟩:=hrel
  have aB:=Hd hst
  have HY:=Hd hy
  have HK:=Hd hlk
  clear hst hy hlk
  by_cases hlt : j < n
  ·obtain ⟨m,hm⟩ : ∃ m,n - j = m + 1:=⟨n - j - 1,by omega⟩
   have hm' : n - (j + 1) = m:=by omega
   rw [hm] at aB
   have HM:=Hd hm'
   clear hm hm'
   obtain ⟨g,o,z,rfl,hg,hz,hr,hc⟩:=(HA.out.below aB.out.below).at_ hlt
   have HZ:=Hd hz
   have HR:=Hd hr
   have HZL:=Hd (show z.P.len + z.Q.len + z.R.len ≤ 1048576 by have:=len_le hz; have:=HN.out; unfold Lr.len at *; omega)
   clear hz hr
   have c0 : wr.cell? ⟨g,o + j * 11,none⟩ = some (.int .i64 z.A):=hc 0 _ rfl
   have c1 : wr.cell? ⟨g,o + j * 11 + 1,none⟩ = some (.int .i64 z.B):=hc 1 _ rfl
   have c2 : wr.cell? ⟨g,o + j * 11 + 2,none⟩ = some (.bool z.P.s):=hc 2 _ rfl
   have c3 : wr.cell? ⟨g,o + j * 11 + 3,none⟩ = some (z.p0):=hc 3 _ rfl
   have c4 : wr.cell? ⟨g,o + j * 11 + 4,none⟩ = some (z.p1):=hc 4 _ rfl
   have c5 : wr.cell? ⟨g,o + j * 11 + 5,none⟩ = some (.bool z.Q.s):=hc 5 _ rfl
   have c6 : wr.cell? ⟨g,o + j * 11 + 6,none⟩ = some (z.q0):=hc 6 _ rfl
   have c7 : wr.cell? ⟨g,o + j * 11 + 7,none⟩ = some (z.q1):=hc 7 _ rfl
   have c8 : wr.cell? ⟨g,o + j * 11 + 8,none⟩ = some (.bool z.R.s):=hc 8 _ rfl
   have c9 : wr.cell? ⟨g,o + j * 11 + 9,none⟩ = some (z.r0):=hc 9 _ rfl
   have c10 : wr.cell? ⟨g,o + j * 11 + 10,none⟩ = some (z.r1):=hc 10 _ rfl
   clear hc
   go_wp2_with fail
   refine (toLink_f z.A z.B z.P z.Q z.R z.p0 z.p1 z.q0 z.q1 z.r0 z.r1 _ HR.out HZL.out).mono ?_
   rintro e w2 ⟨v0,v1,v2,v3,v4,v5,rfl,ho,hb⟩
   obtain ⟨A0,n0,k0,rfl⟩:=(ho.at_ 0 rfl).shape3
   obtain ⟨A1,n1,k1,rfl⟩:=(ho.at_ 1 rfl).shape3
   obtain ⟨A2,n2,k2,rfl⟩:=(ho.at_ 2 rfl).shape3
   obtain ⟨A3,n3,k3,rfl⟩:=(ho.at_ 3 rfl).shape3
   obtain ⟨A4,n4,k4,rfl⟩:=(ho.at_ 4 rfl).shape3
   obtain ⟨A5,n5,k5,rfl⟩:=(ho.at_ 5 rfl).shape3
   have aA:=Hd (aB.out.rows ho hb)
   have HX:=Hd (show (cellsL ys).length = j * 11 by rw [cellsL_len,HY.out])
   clear ho hb aB c0 c1 c2 c3 c4 c5 c6 c7 c8 c9 c10
   have d0 : w2.cell? ⟨w.heap.size,j * 11,none⟩ = some (.int .i64 0):=aA.out.cell 0 (j * 11 + 0) rfl (mid_at HX.out 0 rfl)
   have f0 : w2.frozen? ⟨w.heap.size,j * 11,none⟩ = false:=aA.out.froz 0 (j * 11 + 0) rfl (mid_at HX.out 0 rfl)
   have d1 : w2.cell? ⟨w.heap.size,j * 11 + 1,none⟩ = some (.int .i64 0):=aA.out.cell 0 (j * 11 + 1) rfl (mid_at HX.out 1 rfl)
   have f1 : w2.frozen? ⟨w.heap.size,j * 11 + 1,none⟩ = false:=aA.out.froz 0 (j * 11 + 1) rfl (mid_at HX.out 1 rfl)
   have d2 : w2.cell? ⟨w.heap.size,j * 11 + 2,none⟩ = some (.bool false):=aA.out.cell 0 (j * 11 + 2) rfl (mid_at HX.out 2 rfl)
   have f2 : w2.frozen? ⟨w.heap.size,j * 11 + 2,none⟩ = false:=aA.out.froz 0 (j * 11 + 2) rfl (mid_at HX.out 2 rfl)
   have d3 : w2.cell? ⟨w.heap.size,j * 11 + 3,none⟩ = some (.slice none 0 0):=aA.out.cell 0 (j * 11 + 3) rfl (mid_at HX.out 3 rfl)
   have f3 : w2.frozen? ⟨w.heap.size,j * 11 + 3,none⟩ = false:=aA.out.froz 0 (j * 11 + 3) rfl (mid_at HX.out 3 rfl)
   have d4 : w2.cell? ⟨w.heap.size,j * 11 + 4,none⟩ = some (.slice none 0 0):=aA.out.cell 0 (j * 11 + 4) rfl (mid_at HX.out 4 rfl)
   have f4 : w2.frozen? ⟨w.heap.size,j * 11 + 4,none⟩ = false:=aA.out.froz 0 (j * 11 + 4) rfl (mid_at HX.out 4 rfl)
   have d5 : w2.cell? ⟨w.heap.size,j * 11 + 5,none⟩ = some (.bool false):=aA.out.cell 0 (j * 11 + 5) rfl (mid_at HX.out 5 rfl)
   have f5 : w2.frozen? ⟨w.heap.size,j * 11 + 5,none⟩ = false:=aA.out.froz 0 (j * 11 + 5) rfl (mid_at HX.out 5 rfl)
   have d6 : w2.cell? ⟨w.heap.size,j * 11 + 6,none⟩ = some (.slice none 0 0):=aA.out.cell 0 (j * 11 + 6) rfl (mid_at HX.out 6 rfl)
   have f6 : w2.frozen? ⟨w.heap.size,j * 11 + 6,none⟩ = false:=aA.out.froz 0 (j * 11 + 6) rfl (mid_at HX.out 6 rfl)
   have d7 : w2.cell? ⟨w.heap.size,j * 11 + 7,none⟩ = some (.slice none 0 0):=aA.out.cell 0 (j * 11 + 7) rfl (mid_at HX.out 7 rfl)
   have f7 : w2.frozen? ⟨w.heap.size,j * 11 + 7,none⟩ = false:=aA.out.froz 0 (j * 11 + 7) rfl (mid_at HX.out 7 rfl)
   have d8 : w2.cell? ⟨w.heap.size,j * 11 + 8,none⟩ = some (.bool false):=aA.out.cell 0 (j * 11 + 8) rfl (mid_at HX.out 8 rfl)
   have f8 : w2.frozen? ⟨w.heap.size,j * 11 + 8,none⟩ = false:=aA.out.froz 0 (j * 11 + 8) rfl (mid_at HX.out 8 rfl)
   have d9 : w2.cell? ⟨w.heap.size,j * 11 + 9,none⟩ = some (.slice none 0 0):=aA.out.cell 0 (j * 11 + 9) rfl (mid_at HX.out 9 rfl)
   have f9 : w2.frozen? ⟨w.heap.size,j * 11 + 9,none⟩ = false:=aA.out.froz 0 (j * 11 + 9) rfl (mid_at HX.out 9 rfl)
   have d10 : w2.cell? ⟨w.heap.size,j * 11 + 10,none⟩ = some (.slice none 0 0):=aA.out.cell 0 (j * 11 + 10) rfl (mid_at HX.out 10 rfl)
   have f10 : w2.frozen? ⟨w.heap.size,j * 11 + 10,none⟩ = false:=aA.out.froz 0 (j * 11 + 10) rfl (mid_at HX.out 10 rfl)
   go_wp2
   refine ⟨⟨j + 1,ys ++ [⟨z.A,z.B,z.P,z.Q,z.R,(.slice A0 n0 k0),(.slice A1 n1 k1),(.slice A2 n2 k2),(.slice A3 n3 k3),(.slice A4 n4 k4),(.slice A5 n5 k5)⟩],by omega,by go_num,by simp [HY.out],?_,?_⟩,by simp [intOf]; omega⟩
   ·intro q y z' h1 h2
    rw [List.getElem?_append] at h1
    split at h1
    ·exact HK.out q y z' h1 h2
    ·rename_i hq
     have hq2:=(List.getElem?_eq_some_iff.mp h1).1
     obtain rfl : q = j:=by have:=HY.out; simp at hq2; omega
     have : y = ⟨z.A,z.B,z.P,z.Q,z.R,(.slice A0 n0 k0),(.slice A1 n1 k1),(.slice A2 n2 k2),(.slice A3 n3 k3),(.slice A4 n4 k4),(.slice A5 n5 k5)⟩:=by rw [HY.out,Nat.sub_self] at h1; simpa using h1.symm
     rw [HZ.out] at h2
     obtain rfl:=Option.some.inj h2
     rw [this]; exact ⟨rfl,rfl,rfl,rfl,rfl⟩
   ·have hX:=HX.out
    have aC:=aA.out.join
    rw [show zerosK (m + 1) = [.int .i64 0,.int .i64 0,.bool false,.slice none 0 0,.slice none 0 0,.bool false,.slice none 0 0,.slice none 0 0,.bool false,.slice none 0 0,.slice none 0 0] ++ zerosK m from rfl] at aC
    have T:=aC.setSeg (k:=0) (us:=[.int .i64 z.A,.int .i64 z.B,.bool z.P.s,(.slice A0 n0 k0),(.slice A1 n1 k1),.bool z.Q.s,(.slice A2 n2 k2),(.slice A3 n3 k3),.bool z.R.s,(.slice A4 n4 k4),(.slice A5 n5 k5)]) (X:=cellsL ys) (old:=[.int .i64 0,.int .i64 0,.bool false,.slice none 0 0,.slice none 0 0,.bool false,.slice none 0 0,.slice none 0 0,.bool false,.slice none 0 0,.slice none 0 0]) (rest:=zerosK m) (m:=j * 11) rfl hX rfl
    rw [HM.out]
    have E1 : (cellsL ys ++ ([.int .i64 z.A,.int .i64 z.B,.bool z.P.s,(.slice A0 n0 k0),(.slice A1 n1 k1),.bool z.Q.s,(.slice A2 n2 k2),(.slice A3 n3 k3),.bool z.R.s,(.slice A4 n4 k4),(.slice A5 n5 k5)] ++ zerosK m)) = cellsL (ys ++ [⟨z.A,z.B,z.P,z.Q,z.R,(.slice A0 n0 k0),(.slice A1 n1 k1),(.slice A2 n2 k2),(.slice A3 n3 k3),(.slice A4 n4 k4),(.slice A5 n5 k5)⟩]) ++ zerosK m:=by simp [cellsL,Lr.cells]
    have E2 : rowsL ys ++ rowsK z.P z.Q z.R (.slice A0 n0 k0) (.slice A1 n1 k1) (.slice A2 n2 k2) (.slice A3 n3 k3) (.slice A4 n4 k4) (.slice A5 n5 k5) = rowsL (ys ++ [⟨z.A,z.B,z.P,z.Q,z.R,(.slice A0 n0 k0),(.slice A1 n1 k1),(.slice A2 n2 k2),(.slice A3 n3 k3),(.slice A4 n4 k4),(.slice A5 n5 k5)⟩]):=by simp [rowsL,Lr.rows]
    rw [← E1,← E2]
    exact T
  ·go_wp2
   go_ret
   obtain rfl : j = n:=by omega
   have aD:=aB.out
   rw [Nat.sub_self,show zerosK 0 = [] from rfl,List.append_nil] at aD
   exact ⟨w.heap.size,ys,by rw [HL.out]; rfl,by rw [HL.out]; exact HY.out,HK.out,aD⟩
end Go.Proofs.YtodoiekbjjiocaaGreat
