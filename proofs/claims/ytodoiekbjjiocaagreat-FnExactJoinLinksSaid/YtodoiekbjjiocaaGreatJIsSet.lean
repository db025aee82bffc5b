/- Links: IsLinkSet of both sides. Conditions: none. -/
import Derived.Test.YtodoiekbjjiocaaGreatJPk
import Derived.Test.YtodoiekbjjiocaaGreatJLinks
import Derived.Test.YtodoiekbjjiocaaGreatJLkCmp
namespace Go.Proofs.YtodoiekbjjiocaaGreat
open Go.RowKit Nt Fr
set_option linter.unusedVariables false
def Lr.ok (z : Lr) : Bool:=okK z.A z.B z.P z.Q z.R
def Lr.less (y z : Lr) : Bool:=lessK y.A y.B z.A z.B
def ascP (zs : List Lr) (k : Nat) : Prop:=∀ (i : Nat) (y z : Lr),i + 1 < k → zs[i]? = some y → zs[i + 1]? = some z → y.less z = true
def lessAt (zs : List Lr) (i : Nat) : Bool:=match zs[i]?,zs[i + 1]? with | some y,some z=>y.less z | _,_=>true
def ascB (zs : List Lr) : Bool:=(List.range zs.length).all (lessAt zs)
def validP (zs : List Lr) (k : Nat) : Prop:=∀ (i : Nat) (z : Lr),i < k → zs[i]? = some z → z.ok = true
def okSet (zs : List Lr) : Bool:=zs.all Lr.ok && ascB zs
theorem ascB_iff {zs : List Lr} : ascB zs = true ↔ ascP zs zs.length:=by
 unfold ascB
 rw [List.all_eq_true]
 constructor
 ·intro h i y z hi hy hz
  have:=h i (List.mem_range.mpr (by omega))
  unfold lessAt at this
  rw [hy,hz] at this
  exact this
 ·intro h i hi
  have hi':=List.mem_range.mp hi
  unfold lessAt
  cases hy : zs[i]? with
  | none=>rfl
  | some y=>
   cases hz : zs[i + 1]? with
   | none=>rfl
   | some z=>exact h i y z (List.getElem?_eq_some_iff.mp hz).1 hy hz
theorem valid_iff {zs : List Lr} : zs.all Lr.ok = true ↔ validP zs zs.length:=by
 rw [List.all_eq_true]
 constructor
 ·intro h i z hi hz; exact h z (List.mem_of_getElem? hz)
 ·intro h z hz
  obtain ⟨i,hi⟩:=List.mem_iff_getElem?.mp hz
  exact h i z (List.getElem?_eq_some_iff.mp hi).1 hi
theorem okSet_iff {zs : List Lr} : okSet zs = true ↔ (validP zs zs.length ∧ ascP zs zs.length):=by
 unfold okSet; rw [Bool.and_eq_true,valid_iff,ascB_iff]
theorem okSet_no {zs : List Lr} (h : ¬ (validP zs zs.length ∧ ascP zs zs.length)) : okSet zs = false:=by rw [← okSet_iff,Bool.not_eq_true] at h; exact h
theorem okSet_bad {zs : List Lr} {k : Nat} {z : Lr} (h : zs[k]? = some z) (hz : z.ok = false) : okSet zs = false:=okSet_no fun ⟨h1,_⟩=>by
 have:=h1 k z (List.getElem?_eq_some_iff.mp h).1 h
 rw [hz] at this; exact absurd this (by decide)
theorem asc_bad {zs : List Lr} {k : Nat} {y z : Lr} (h1 : zs[k]? = some y) (h2 : zs[k + 1]? = some z) (hl : y.less z = false) : ¬ ascP zs zs.length:=fun h=>by
 have:=h k y z (List.getElem?_eq_some_iff.mp h2).1 h1 h2
 rw [hl] at this; exact absurd this (by decide)
theorem asc_step {zs : List Lr} {k : Nat} {y z : Lr} (h : ascP zs (k + 1)) (h1 : zs[k]? = some y) (h2 : zs[k + 1]? = some z) (hl : y.less z = true) : ascP zs (k + 2):=by
 intro i a b hi ha hb
 by_cases e : i = k
 ·subst e
  obtain rfl:=Option.some.inj (h1.symm.trans ha)
  obtain rfl:=Option.some.inj (h2.symm.trans hb)
  exact hl
 ·exact h i a b (by omega) ha hb
theorem valid_step {zs : List Lr} {k : Nat} {z : Lr} (h : validP zs k) (h1 : zs[k]? = some z) (hl : z.ok = true) : validP zs (k + 1):=by
 intro i a hi ha
 by_cases e : i = k
 ·subst e
  obtain rfl:=Option.some.inj (h1.symm.trans ha)
  exact hl
 ·exact h i a (by omega) ha
theorem asc_le {zs : List Lr} {k : Nat} (h : k ≤ 1) : ascP zs k:=fun i y z hi=>by omega
theorem LkI_A {w : World} {base : Nat} {ys : List Lr} (h : Owns w base (rowsL ys)) : ∀ y ∈ ys,LkA w y.P y.Q y.R y.p0 y.p1 y.q0 y.q1 y.r0 y.r1:=by
 intro y hy
 have : Owns w base y.rows:=by
  obtain ⟨a,b,rfl⟩:=List.append_of_mem hy
  exact h.part (rowsL a) y.rows (rowsL b) (by simp [rowsL])
 exact this.lk
structure LArg (w : World) (A : Option Addr) (n : Nat) (zs : List Lr) : Prop where
 row : LRow w A n zs
 arg : ∀ z ∈ zs,LkA w z.P z.Q z.R z.p0 z.p1 z.q0 z.q1 z.r0 z.r1
theorem LArg.below {w w' : World} {A : Option Addr} {n : Nat} {zs : List Lr} (h : LArg w A n zs) (hb : Below w.heap.size w w') : LArg w' A n zs:=⟨h.row.below hb,fun z hz=>(h.arg z hz).below hb⟩
theorem LArg.at_ {w : World} {A : Option Addr} {n : Nat} {zs : List Lr} (h : LArg w A n zs) {k : Nat} (hk : k < n) : ∃ g o z,A = some ⟨g,o,none⟩ ∧ g < w.heap.size ∧ zs[k]? = some z ∧ LkA w z.P z.Q z.R z.p0 z.p1 z.q0 z.q1 z.r0 z.r1 ∧ ∀ (j : Nat) (v : Value),(z.cells)[j]? = some v → w.cell? ⟨g,o + k * 11 + j,none⟩ = some v:=by
 obtain ⟨g,o,z,e,hg,hz,_,hc⟩:=h.row.at_ hk
 exact ⟨g,o,z,e,hg,hz,h.arg z (List.mem_of_getElem? hz),hc⟩
theorem St.larg {w0 w : World} {bs : List (Nat × List Value)} {cs : List Chunk} (h : St w0 w bs cs) (i k : Nat) {b : Nat} {ys : List Lr} (e : bs[i]? = some (b,cellsL ys)) (e2 : cs[k]? = some (rowsL ys)) : LArg w (some ⟨b,0,none⟩) ys.length ys:=⟨h.lrow i k e e2,LkI_A (h.own k e2)⟩
theorem LArg.shapes {w : World} {z : Lr} (h : LkA w z.P z.Q z.R z.p0 z.p1 z.q0 z.q1 z.r0 z.r1) : ∃ A B P Q R a0 n0 c0 a1 n1 c1 a2 n2 c2 a3 n3 c3 a4 n4 c4 a5 n5 c5,z = ⟨A,B,P,Q,R,.slice a0 n0 c0,.slice a1 n1 c1,.slice a2 n2 c2,.slice a3 n3 c3,.slice a4 n4 c4,.slice a5 n5 c5⟩:=by
 obtain ⟨A,B,P,Q,R,p0,p1,q0,q1,r0,r1⟩:=z
 obtain ⟨a0,n0,c0,a1,n1,c1,h1,h2⟩:=h.p.shape
 obtain ⟨a2,n2,c2,a3,n3,c3,h3,h4⟩:=h.q.shape
 obtain ⟨a4,n4,c4,a5,n5,c5,h5,h6⟩:=h.r.shape
 simp only at h1 h2 h3 h4 h5 h6
 subst h1 h2 h3 h4 h5 h6
 exact ⟨_,_,_,_,_,_,_,_,_,_,_,_,_,_,_,_,_,_,_,_,_,_,_,rfl⟩
end Go.Proofs.YtodoiekbjjiocaaGreat
