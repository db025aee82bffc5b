/- What joining links answers: a fold of adding; a link set stays one. Conditions: none. -/
import Derived.Test.YtodoiekbjjiocaaGreatJPk
import Derived.Test.YtodoiekbjjiocaaGreatJAddMath
namespace Go.Proofs.YtodoiekbjjiocaaGreat
open Go.RowKit Nt Fr
set_option linter.unusedVariables false
def Dt.ok (d : Dt) : Bool:=okK d.A d.B d.P d.Q d.R
def Dt.lt (p q : Dt) : Prop:=cmpK p.A p.B q.A q.B < 0
def okDts (ds : List Dt) : Prop:=(∀ d ∈ ds,d.ok = true) ∧ ds.Pairwise Dt.lt
theorem lt_iff (p q : Dt) : p.lt q ↔ (p.A < q.A ∨ (p.A = q.A ∧ p.B < q.B)):=by
 unfold Dt.lt
 rw [cmpK_less]
 simp [lessK]
theorem lt_trans {p q r : Dt} (h1 : p.lt q) (h2 : q.lt r) : p.lt r:=by rw [lt_iff] at *; omega
theorem cmp_pos {A B C E : Int} (h : 0 ≤ cmpK A B C E) (h2 : ¬ cmpK A B C E = 0) : C < A ∨ (C = A ∧ E < B):=by
 have h3 : ¬ cmpK A B C E < 0:=by omega
 rw [cmpK_less] at h3
 by_cases c1 : A < C
 ·exact absurd (by simp [lessK,c1]) h3
 ·by_cases c2 : A = C
  ·subst c2
   by_cases c3 : B < E
   ·exact absurd (by simp [lessK,c3]) h3
   ·by_cases c4 : B = E
    ·subst c4
     exact absurd (by simp [cmpK,cmpI2]) h2
    ·exact .inr ⟨rfl,by omega⟩
  ·exact .inl (by omega)
theorem takeWhile_all {α : Type} (p : α → Bool) : ∀ (l : List α),(∀ x ∈ l.take (l.takeWhile p).length,p x = true) ∧ (∀ x,l[(l.takeWhile p).length]? = some x → p x = false)
 | []=>by simp
 | a :: r=>by
  have ih:=takeWhile_all p r
  cases ha : p a with
  | true=>
   rw [List.takeWhile_cons_of_pos ha]
   simp only [List.length_cons,List.take_succ_cons,List.mem_cons,List.getElem?_cons_succ]
   exact ⟨fun x hx=>hx.elim (fun e=>e ▸ ha) (ih.1 x),ih.2⟩
  | false=>
   rw [List.takeWhile_cons_of_neg (by simp [ha])]
   simp only [List.length_nil,List.take_zero,List.getElem?_cons_zero,Option.some.injEq]
   exact ⟨by simp,fun x e=>e ▸ ha⟩
theorem plc_before {ds : List Dt} {x d : Dt} (h : d ∈ ds.take (plc ds x.A x.B)) : d.lt x:=by simpa [Dt.lt] using (takeWhile_all (fun d : Dt=>decide (cmpK d.A d.B x.A x.B < 0)) ds).1 d h
theorem plc_at {ds : List Dt} {x d : Dt} (h : ds[plc ds x.A x.B]? = some d) : 0 ≤ cmpK d.A d.B x.A x.B:=by
 have:=(takeWhile_all (fun d : Dt=>decide (cmpK d.A d.B x.A x.B < 0)) ds).2 d h
 simpa using this
theorem ok_ins {ds : List Dt} {x : Dt} (h : okDts ds) (hx : x.ok = true) (hn : ∀ d,ds[plc ds x.A x.B]? = some d → ¬ cmpK d.A d.B x.A x.B = 0) : okDts (ds.take (plc ds x.A x.B) ++ x :: ds.drop (plc ds x.A x.B)):=by
 have hp:=h.2
 rw [← List.take_append_drop (plc ds x.A x.B) ds,List.pairwise_append] at hp
 have hd : ∀ q ∈ ds.drop (plc ds x.A x.B),x.lt q:=by
  cases hc : ds.drop (plc ds x.A x.B) with
  | nil=>simp
  | cons d r=>
   have hat : ds[plc ds x.A x.B]? = some d:=by
    have:=List.getElem?_drop (xs:=ds) (i:=plc ds x.A x.B) (j:=0)
    rw [hc] at this
    simpa using this.symm
   have hxd : x.lt d:=by rw [lt_iff]; exact cmp_pos (plc_at hat) (hn d hat)
   have hpr:=hp.2.1
   rw [hc] at hpr
   intro q hq
   rcases List.mem_cons.mp hq with rfl | hq
   ·exact hxd
   ·exact lt_trans hxd ((List.pairwise_cons.mp hpr).1 q hq)
 refine ⟨fun d hd' =>?_,?_⟩
 ·rcases List.mem_append.mp hd' with a | a
  ·exact h.1 d (List.mem_of_mem_take a)
  ·rcases List.mem_cons.mp a with rfl | a
   ·exact hx
   ·exact h.1 d (List.mem_of_mem_drop a)
 ·rw [List.pairwise_append,List.pairwise_cons]
  refine ⟨hp.1,⟨hd,hp.2.1⟩,fun a ha b hb=>?_⟩
  rcases List.mem_cons.mp hb with rfl | hb
  ·exact plc_before ha
  ·exact hp.2.2 a ha b hb
theorem pw_set {ds : List Dt} {i : Nat} {d m : Dt} (hd : ds[i]? = some d) (hA : m.A = d.A) (hB : m.B = d.B) (h : ds.Pairwise Dt.lt) : (ds.set i m).Pairwise Dt.lt:=by
 have e : (ds.set i m).map (fun d=>(d.A,d.B)) = ds.map (fun d=>(d.A,d.B)):=by
  apply List.ext_getElem? 
  intro j
  rw [List.getElem?_map,List.getElem?_map,List.getElem?_set]
  split
  ·rename_i hij
   subst hij
   have hi:=(List.getElem?_eq_some_iff.mp hd).1
   rw [if_pos hi,hd]
   simp [hA,hB]
  ·rfl
 have h1 : (ds.map fun d=>(d.A,d.B)).Pairwise (fun p q : Int × Int=>p.1 < q.1 ∨ (p.1 = q.1 ∧ p.2 < q.2)):=by
  rw [List.pairwise_map]
  exact h.imp fun {a b} hab=>(lt_iff a b).mp hab
 rw [← e,List.pairwise_map] at h1
 exact h1.imp fun {a b} hab=>(lt_iff a b).mpr hab
theorem addD_ok {ds r : List Dt} {x : Dt} {E : Fr} (h : okDts ds) (hx : x.ok = true) (ha : addD ds x = some (r,E)) : okDts r:=by
 unfold addD at ha
 split at ha
 ·rename_i hd
  simp only [Option.some.injEq,Prod.mk.injEq] at ha
  obtain ⟨rfl,rfl⟩:=ha
  exact ok_ins h hx (fun d hd' =>by rw [hd] at hd'; cases hd')
 ·rename_i d hd
  split at ha
  ·split at ha
   ·rename_i hc hm
    simp only [Option.some.injEq,Prod.mk.injEq] at ha
    obtain ⟨rfl,rfl⟩:=ha
    unfold mwOk at hm
    rw [Bool.and_eq_true] at hm
    refine ⟨fun e he=>?_,pw_set hd rfl rfl h.2⟩
    rcases List.mem_or_eq_of_mem_set he with a | a
    ·exact h.1 e a
    ·subst a; exact hm.1
   ·cases ha
  ·rename_i hc
   simp only [Option.some.injEq,Prod.mk.injEq] at ha
   obtain ⟨rfl,rfl⟩:=ha
   exact ok_ins h hx (fun d' hd' =>by rw [hd] at hd'; cases hd'; exact hc)
theorem okDts_set {zs : List Lr} (h : okDts (dts zs)) : okSet zs = true:=by
 rw [okSet_iff]
 refine ⟨fun i z hi hz=>h.1 z.d (List.mem_map_of_mem (List.mem_of_getElem? hz)),fun i y z hi hy hz=>?_⟩
 have h1:=List.pairwise_iff_getElem.mp h.2 i (i + 1) (by simp [dts]; omega) (by simpa [dts] using hi) (Nat.lt_succ_self i)
 rw [lt_iff] at h1
 have e1 : (dts zs)[i]'(by simp [dts]; omega) = y.d:=by have:=dts_at hy; rw [List.getElem?_eq_getElem (by simp [dts]; omega)] at this; exact Option.some.inj this
 have e2 : (dts zs)[i + 1]'(by simpa [dts] using hi) = z.d:=by have:=dts_at hz; rw [List.getElem?_eq_getElem (by simpa [dts] using hi)] at this; exact Option.some.inj this
 rw [e1,e2] at h1
 simp only [Lr.d] at h1
 simp only [Lr.less,lessK,Bool.or_eq_true,Bool.and_eq_true,decide_eq_true_eq]
 exact h1
def joinStep (st : Option (List Dt × Fr)) (x : Dt) : Option (List Dt × Fr) :=
 match st with
 | none=>none
 | some (ds,s)=>
  if x.ok = true then
   match addD ds x with
   | none=>none
   | some (r,E)=>if (s.add E).ok = true then some (r,s.add E) else none
  else none
def joinD (l : List Dt) : Option (List Dt × Fr):=l.foldl joinStep (some ([],Fr.of 0))
theorem joinD_ok {l r : List Dt} {s : Fr} (h : joinD l = some (r,s)) : okDts r:=by
 unfold joinD at h
 have gen : ∀ (l : List Dt) (st : Option (List Dt × Fr)),(∀ ds s,st = some (ds,s) → okDts ds) → ∀ r s,l.foldl joinStep st = some (r,s) → okDts r:=by
  intro l
  induction l with
  | nil=>intro st h0 r s h; exact h0 r s h
  | cons x t ih=>
   intro st h0 r s h
   rw [List.foldl_cons] at h
   refine ih (joinStep st x) (fun ds s' e=>?_) r s h
   unfold joinStep at e
   split at e
   ·cases e
   ·rename_i ds0 s0
    split at e
    ·rename_i hx
     split at e
     ·cases e
     ·rename_i r1 E1 ha
      split at e
      ·simp only [Option.some.injEq,Prod.mk.injEq] at e
       obtain ⟨rfl,rfl⟩:=e
       exact addD_ok (h0 _ _ rfl) hx ha
      ·cases e
    ·cases e
 exact gen l _ (fun ds s e=>by simp only [Option.some.injEq,Prod.mk.injEq] at e; obtain ⟨rfl,rfl⟩:=e; exact ⟨by simp,.nil⟩) r s h
end Go.Proofs.YtodoiekbjjiocaaGreat
