/- Joining links, both ways of adding up; memory beside a slice of links. Conditions: none. -/
import Derived.Test.YtodoiekbjjiocaaGreatJPk
import Derived.Test.YtodoiekbjjiocaaGreatJJoinSet
import Derived.Test.YtodoiekbjjiocaaGreatJAddOpen
namespace Go.Proofs.YtodoiekbjjiocaaGreat
open Go.RowKit Nt Fr
set_option linter.unusedVariables false
theorem add_bad {F G : Fr} (h : F.ok = false) : (F.add G).ok = false:=by
 have h' : okR F.s F.xs F.ys = false:=h
 unfold Fr.add
 rw [h',Bool.false_and]
 rfl
theorem of0_ok : (Fr.of 0).ok = true:=by decide +kernel
theorem of0_good : (Fr.of 0).Good:=.inl of0_ok
theorem addD_good {ds r : List Dt} {x : Dt} {E : Fr} (h : addD ds x = some (r,E)) : E.Good:=by
 unfold addD at h
 split at h
 ·simp only [Option.some.injEq,Prod.mk.injEq] at h
  obtain ⟨_,rfl⟩:=h
  exact of0_good
 ·split at h
  ·split at h
   ·simp only [Option.some.injEq,Prod.mk.injEq] at h
    obtain ⟨_,rfl⟩:=h
    exact good_mul _ _
   ·cases h
  ·simp only [Option.some.injEq,Prod.mk.injEq] at h
   obtain ⟨_,rfl⟩:=h
   exact of0_good
def joinStepS (st : Option (List Dt × Fr)) (x : Dt) : Option (List Dt × Fr) :=
 match st with
 | none=>none
 | some (ds,s)=>
  if x.ok = true then
   match addD ds x with
   | none=>none
   | some (r,E)=>some (r,s.add E)
  else none
def joinS (l : List Dt) : Option (List Dt × Fr):=l.foldl joinStepS (some ([],Fr.of 0))
def jsel (st : Option (List Dt × Fr)) : Option (List Dt × Fr) :=
 match st with
 | none=>none
 | some (ds,s)=>if s.ok = true then some (ds,s) else none
theorem jsel_step (st : Option (List Dt × Fr)) (x : Dt) : joinStep (jsel st) x = jsel (joinStepS st x):=by
 cases st with
 | none=>rfl
 | some p=>
  obtain ⟨ds,s⟩:=p
  cases hs : s.ok with
  | true=>
   simp only [jsel,hs,if_true,joinStep,joinStepS]
   split
   ·cases addD ds x with
    | none=>rfl
    | some q=>rfl
   ·rfl
  | false=>
   rw [show jsel (some (ds,s)) = none by simp [jsel,hs]]
   show none = _
   cases hx : x.ok with
   | false=>simp [joinStepS,hx,jsel]
   | true=>
    cases ha : addD ds x with
    | none=>simp [joinStepS,hx,ha,jsel]
    | some q=>simp [joinStepS,hx,ha,jsel,add_bad hs]
theorem joinD_eq (l : List Dt) : joinD l = jsel (joinS l):=by
 have gen : ∀ (l : List Dt) (st : Option (List Dt × Fr)),l.foldl joinStep (jsel st) = jsel (l.foldl joinStepS st):=by
  intro l
  induction l with
  | nil=>intro st; rfl
  | cons x t ih=>intro st; rw [List.foldl_cons,List.foldl_cons,jsel_step]; exact ih _
 have:=gen l (some ([],Fr.of 0))
 rw [show jsel (some ([],Fr.of 0)) = some ([],Fr.of 0) by simp only [jsel,of0_ok,if_true]] at this
 exact this
theorem joinS_succ {l : List Dt} {k : Nat} {x : Dt} (h : l[k]? = some x) : joinS (l.take (k + 1)) = joinStepS (joinS (l.take k)) x:=by
 obtain ⟨hk,e⟩:=List.getElem?_eq_some_iff.mp h
 unfold joinS
 rw [List.take_succ_eq_append_getElem hk,List.foldl_append,e]; rfl
theorem joinD_succ {l : List Dt} {k : Nat} {x : Dt} (h : l[k]? = some x) : joinD (l.take (k + 1)) = joinStep (joinD (l.take k)) x:=by
 obtain ⟨hk,e⟩:=List.getElem?_eq_some_iff.mp h
 unfold joinD
 rw [List.take_succ_eq_append_getElem hk,List.foldl_append,e]; rfl
theorem joinD_none {l : List Dt} (k : Nat) (h : joinD (l.take k) = none) : joinD l = none:=by
 have gen : ∀ t : List Dt,t.foldl joinStep none = none:=by
  intro t
  induction t with
  | nil=>rfl
  | cons x r ih=>exact ih
 unfold joinD at *
 rw [← List.take_append_drop k l,List.foldl_append,h]
 exact gen _
theorem joinS_none {l : List Dt} (k : Nat) (h : joinS (l.take k) = none) : joinS l = none:=by
 have gen : ∀ t : List Dt,t.foldl joinStepS none = none:=by
  intro t
  induction t with
  | nil=>rfl
  | cons x r ih=>exact ih
 unfold joinS at *
 rw [← List.take_append_drop k l,List.foldl_append,h]
 exact gen _
theorem joinS_ok {l r : List Dt} {s : Fr} (h : joinS l = some (r,s)) : okDts r:=by
 unfold joinS at h
 have gen : ∀ (l : List Dt) (st : Option (List Dt × Fr)),(∀ ds s,st = some (ds,s) → okDts ds) → ∀ r s,l.foldl joinStepS st = some (r,s) → okDts r:=by
  intro l
  induction l with
  | nil=>intro st h0 r s h; exact h0 r s h
  | cons x t ih=>
   intro st h0 r s h
   rw [List.foldl_cons] at h
   refine ih (joinStepS st x) (fun ds s' e=>?_) r s h
   unfold joinStepS at e
   split at e
   ·cases e
   ·rename_i ds0 s0
    split at e
    ·rename_i hx
     split at e
     ·cases e
     ·rename_i r1 E1 ha
      simp only [Option.some.injEq,Prod.mk.injEq] at e
      obtain ⟨rfl,rfl⟩:=e
      exact addD_ok (h0 _ _ rfl) hx ha
    ·cases e
 exact gen l _ (fun ds s e=>by simp only [Option.some.injEq,Prod.mk.injEq] at e; obtain ⟨rfl,rfl⟩:=e; exact ⟨by simp,.nil⟩) r s h
theorem okDts_len {ds : List Dt} (h : okDts ds) : ds.length ≤ 100 ∧ lensD ds ≤ 14400:=by
 have h1 : ds.length ≤ 100:=by
  have e : dts (ds.map fun d : Dt=>(⟨d.A,d.B,d.P,d.Q,d.R,.bool true,.bool true,.bool true,.bool true,.bool true,.bool true⟩ : Lr)) = ds:=by
   unfold dts; rw [List.map_map]; exact List.map_id' ds
  have h2:=okSet_short (okDts_set (zs:=ds.map fun d : Dt=>(⟨d.A,d.B,d.P,d.Q,d.R,.bool true,.bool true,.bool true,.bool true,.bool true,.bool true⟩ : Lr)) (by rw [e]; exact h))
  rwa [List.length_map] at h2
 have h2 : ∀ l : List Dt,(∀ d ∈ l,d.ok = true) → lensD l ≤ 144 * l.length:=by
  intro l
  induction l with
  | nil=>intro _; simp [lensD]
  | cons d r ih=>
   intro hd
   have a:=okK_len (show okK d.A d.B d.P d.Q d.R = true from hd d (by simp))
   have b:=ih fun e he=>hd e (by simp [he])
   rw [lensD_cons,List.length_cons]
   have : d.len = d.P.len + d.Q.len + d.R.len:=rfl
   omega
 have:=h2 ds h.1
 omega
theorem joinD_sok {l r : List Dt} {s : Fr} (h : joinD l = some (r,s)) : s.ok = true:=by
 have h2 : jsel (joinS l) = some (r,s):=(joinD_eq _).symm.trans h
 unfold jsel at h2
 split at h2
 ·cases h2
 ·split at h2
  ·simp only [Option.some.injEq,Prod.mk.injEq] at h2
   obtain ⟨rfl,rfl⟩:=h2
   assumption
  ·cases h2
def jlAns (zs : List Lr) : Option (List Dt × Fr):=joinD (dts zs)
theorem jlAns_like {ys zs : List Lr} {n : Nat} (hy : ys.length = n) (hz : zs.length = n) (h : ∀ (i : Nat) (y z : Lr),ys[i]? = some y → zs[i]? = some z → y.like z) : jlAns ys = jlAns zs:=by unfold jlAns; rw [dts_like hy hz h]
theorem jlAns_small (zs : List Lr) : (rD (jlAns zs)).length ≤ 101 ∧ lensD (rD (jlAns zs)) ≤ 1048720 ∧ (rE (jlAns zs)).len ≤ 120:=by
 cases h : jlAns zs with
 | none=>simp [rD,rE,lensD,Fr.len]
 | some p=>
  obtain ⟨r,s⟩:=p
  have hl:=okDts_len (joinD_ok h)
  have hs : s.ok = true:=joinD_sok h
  have:=Fr.Good.len (F:=s) (.inl hs)
  refine ⟨?_,?_,?_⟩
  ·show r.length ≤ 101
   omega
  ·show lensD r ≤ 1048720
   omega
  ·show s.len ≤ 120
   omega
-- memory
theorem StT {w0 w w' : World} {bs : List (Nat × List Value)} {cs : List Chunk} {o : Option Nat} (h : St w0 w bs cs) (hT : Turned w w' [o]) (hB : Below w0.heap.size w0 w') (hb : ∀ p ∈ bs,o ≠ some p.1) (hc : ∀ l ∈ cs,∀ q ∈ l,Far o q.1.ownBlock) : St w0 w' bs cs :=
 ⟨hB,fun p hp=>⟨hT.held (h.box p hp).1 (fun hm=>hb p hp (List.mem_singleton.mp hm).symm),(h.box p hp).2⟩,fun l hl=>⟨fun q hq=>hT.own ((h.row l hl).1 q hq) (fun x hx=>by rw [List.mem_singleton] at hx; subst hx; exact (hc l hl q hq).symm),(h.row l hl).2⟩,h.bb,h.cc,h.br⟩
theorem Below.both {B : Nat} {u w : World} (h : Below B u w) (p : Addr) (x : Value) : Below B (u.setCell p x) (w.setCell p x) :=
 ⟨h.os,h.tape,h.output,by simpa [World.setCell] using h.size,fun k hk=>by simp only [World.setCell,Array.getElem?_modify]; rw [h.block k hk]⟩
theorem setCell_size (u : World) (p : Addr) (x : Value) : (u.setCell p x).heap.size = u.heap.size:=by simp [World.setCell]
theorem LGrow.both {u w : World} {v : Value} {ys : List Lr} {b : Nat} (h : LGrow u w v ys) (hb : b < u.heap.size) (j : Nat) (x : Value) : LGrow (u.setCell ⟨b,j,none⟩ x) (w.setCell ⟨b,j,none⟩ x) v ys:=by
 have hT:=Turned.of_grown (setCell_grown b j w x)
 have hs:=setCell_size u ⟨b,j,none⟩ x
 have hv : v.ownBlock ≠ some b:=fun e=>by have:=(h.own.lt b e).1; omega
 have hr:=h.row.young hb
 refine ⟨?_,?_,⟨fun q hq=>?_,h.row.2⟩,h.br⟩
 ·rw [hs]; exact Below.both h.below _ _
 ·rw [hs]; exact h.own.kept (setCell_grown b j w x) (.inr hv)
 ·rw [hs]; exact hT.own (h.row.1 q hq) fun y hy=>by
   rw [List.mem_singleton] at hy; subst hy; exact Far.of_ne (.inr (hr q hq))
theorem LGrow.bothAll {v : Value} {ys : List Lr} {b : Nat} : ∀ (us : List Value) {u w : World} (h : LGrow u w v ys) (hb : b < u.heap.size) (m : Nat),LGrow (setCells u b m us) (setCells w b m us) v ys
 | [],_,_,h,_,_=>h
 | x :: us,u,w,h,hb,m=>LGrow.bothAll us (h.both hb m x) (by rw [setCell_size]; exact hb) (m + 1)
def Apart (v : Value) (ys : List Lr) (b : Nat) : Prop:=v.ownBlock ≠ some b ∧ ∀ q ∈ rowsL ys,q.1.ownBlock ≠ some b
theorem LGrow.beneath {u w : World} {v : Value} {ys : List Lr} {b : Nat} (h : LGrow u w v ys) (hb : b < u.heap.size) : Apart v ys b:=⟨fun e=>by have:=(h.own.lt b e).1; omega,h.row.young hb⟩
theorem LGrow.setC {w0 w : World} {v : Value} {ys : List Lr} {b : Nat} (h : LGrow w0 w v ys) (hb : w0.heap.size ≤ b) (ha : Apart v ys b) (j : Nat) (x : Value) : LGrow w0 (w.setCell ⟨b,j,none⟩ x) v ys:=h.other (setCell_grown b j w x) hb ha.1 ha.2
theorem alNone {ys : List Lr} {x : Dt} {s : Fr} (h : okDts (dts ys)) (ha : alAns (okSet ys && okK x.A x.B x.P x.Q x.R) (dts ys) x = none) : joinStepS (some (dts ys,s)) x = none:=by
 rw [okDts_set h,Bool.true_and] at ha
 unfold alAns at ha
 unfold joinStepS
 by_cases hk : okK x.A x.B x.P x.Q x.R = true
 ·rw [if_pos hk] at ha
  simp [ha]
 ·simp [Dt.ok,hk]
theorem alSome {ys : List Lr} {x : Dt} {s E : Fr} {rr : List Dt} (h : okDts (dts ys)) (ha : alAns (okSet ys && okK x.A x.B x.P x.Q x.R) (dts ys) x = some (rr,E)) : joinStepS (some (dts ys,s)) x = some (rr,s.add E):=by
 rw [okDts_set h,Bool.true_and] at ha
 unfold alAns at ha
 unfold joinStepS
 by_cases hk : okK x.A x.B x.P x.Q x.R = true
 ·rw [if_pos hk] at ha
  simp [Dt.ok,hk,ha]
 ·rw [if_neg hk] at ha
  cases ha
theorem LGrow.fresh {u w w1 : World} {v : Value} {ys : List Lr} {l : Chunk} (h : LGrow u w v ys) (ho : Owns w1 w.heap.size l) : (∀ q ∈ l,Far v.ownBlock q.1.ownBlock) ∧ FarL (rowsL ys) l :=
 ⟨fun q hq k e1 e2=>by have a:=(h.own.lt k e1).2; have b:=((ho.1 q hq).lt k e2).1; omega,(h.row.newer ho (Nat.le_refl _)).symm⟩
theorem OwnSE.nil_ {r : Option (List Dt × Fr)} {w w' : World} {bs : List (Nat × List Value)} {cs : List Chunk} (h : r = none) (hs : St w w' bs cs) : OwnSE r w (.returned (.tuple #[.slice none 0 0,.agg #[.bool false,.slice none 0 0,.slice none 0 0],.bool false])) w':=by subst h; exact ⟨rfl,hs.below⟩
theorem okDts_ok {ys : List Lr} (h : okDts (dts ys)) : ∀ y ∈ ys,okK y.A y.B y.P y.Q y.R = true:=fun y hy=>h.1 y.d (List.mem_map_of_mem hy)
end Go.Proofs.YtodoiekbjjiocaaGreat
