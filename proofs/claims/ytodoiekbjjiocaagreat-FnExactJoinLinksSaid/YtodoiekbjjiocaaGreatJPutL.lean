/- One link of a slice of the call's own written anew; where a link belongs in a link set; what adding a link answers. Conditions: none. -/
import Derived.Test.YtodoiekbjjiocaaGreatJPk
import Derived.Test.YtodoiekbjjiocaaGreatJInsertL
import Derived.Test.YtodoiekbjjiocaaGreatJLk4
namespace Go.Proofs.YtodoiekbjjiocaaGreat
open Go.RowKit Nt Fr
set_option linter.unusedVariables false
theorem larg_grow {w0 w : World} {v : Value} {ys : List Lr} (h : LGrow w0 w v ys) : ∃ A c,v = .slice A ys.length c ∧ LArg w A ys.length ys:=by
 have ha : ∀ y ∈ ys,LkA w y.P y.Q y.R y.p0 y.p1 y.q0 y.q1 y.r0 y.r1:=fun y hy=>by
  obtain ⟨l1,l2,e⟩:=List.append_of_mem hy
  have h2:=h.row
  rw [e,rowsL_app] at h2
  have h3:=h2.right
  rw [show rowsL (y :: l2) = y.rows ++ rowsL l2 from rfl] at h3
  exact (show Owns w w0.heap.size (rowsK y.P y.Q y.R y.p0 y.p1 y.q0 y.q1 y.r0 y.r1) from h3.left).lk
 rcases h.own.2 with ⟨rfl,h0⟩ | ⟨g,cap,cur,rfl,_⟩
 ·obtain rfl : ys = []:=List.eq_nil_of_length_eq_zero h0
  exact ⟨none,0,rfl,⟨⟨rfl,fun hp=>by simp at hp,by simp⟩,ha⟩⟩
 ·refine ⟨some ⟨g,0,none⟩,cap,rfl,⟨⟨rfl,fun hp=>⟨g,0,rfl,(h.own.lt g rfl).2,fun k hk j u hj=>?_⟩,fun y hy=>(ha y hy).i⟩,ha⟩⟩
  have hj11 : j < 11:=by have:=(List.getElem?_eq_some_iff.mp hj).1; simpa [Lr.cells] using this
  rw [Nat.zero_add,h.own.cellAt _ (by omega)]
  exact cellsL_at (List.getElem?_eq_getElem hk) j hj
theorem own_setCells {base n c g : Nat} {e : TypeId} {size : Nat} : ∀ (us : List Value) (m : Nat) (X : List Value) (w : World),w.ownsRow base e size (.slice (some ⟨g,0,none⟩) n c) n X → m + us.length ≤ X.length →
 (setCells w g m us).ownsRow base e size (.slice (some ⟨g,0,none⟩) n c) n (X.take m ++ us ++ X.drop (m + us.length)) ∧ w.grownBy (setCells w g m us) (some g)
 | [],m,X,w,h,hm=>by
  refine ⟨?_,World.grownBy.refl _ _⟩
  simp only [setCells,List.append_nil,List.length_nil,Nat.add_zero,List.take_append_drop]
  exact h
 | u :: us,m,X,w,h,hm=>by
  have hs:=World.ownsRow.stored h m u
  have hm' : m + 1 + us.length ≤ (X.set m u).length:=by simp at hm ⊢; omega
  obtain ⟨h1,h2⟩:=own_setCells us (m + 1) (X.set m u) _ hs.1 hm'
  refine ⟨?_,grown_grown hs.2 h2⟩
  have hml : m < X.length:=by simp at hm; omega
  have e1 : (X.set m u).take (m + 1) = X.take m ++ [u]:=by
   rw [List.take_add_one,List.take_set_of_le (Nat.le_refl _)]
   simp [hml]
  have e2 : (X.set m u).drop (m + 1 + us.length) = X.drop (m + (u :: us).length):=by
   rw [List.drop_set_of_lt (by omega)]
   congr 1
   simp; omega
  rw [e1,e2] at h1
  simpa [setCells] using h1
theorem rowsL_put {ys : List Lr} {i : Nat} (hi : i < ys.length) (z : Lr) : (rowsL (ys.eraseIdx i) ++ z.rows).Perm (rowsL (ys.set i z)):=by
 have h:=rowsL_ins (ys.eraseIdx i) i z
 have e : (ys.eraseIdx i).take i ++ z :: (ys.eraseIdx i).drop i = ys.set i z:=by
  rw [List.eraseIdx_eq_take_drop_succ,List.take_append_of_le_length (by simp; omega),List.take_take,List.drop_append_of_le_length (by simp; omega),List.drop_of_length_le (by simp; omega),List.nil_append,List.set_eq_take_append_cons_drop,if_pos hi,Nat.min_self]
 rwa [e] at h
theorem cellsL_put {ys : List Lr} {i : Nat} (hi : i < ys.length) (z : Lr) : (cellsL ys).take (i * 11) ++ z.cells ++ (cellsL ys).drop (i * 11 + z.cells.length) = cellsL (ys.set i z):=by
 have e : i * 11 + z.cells.length = (i + 1) * 11:=by rw [Lr.cells_len]; omega
 rw [e,cellsL_take,cellsL_drop,List.set_eq_take_append_cons_drop,if_pos hi,cellsL_app,List.append_assoc]
 rfl
theorem LGrow.put {w0 w : World} {ys : List Lr} {z : Lr} {i g n c : Nat} (h : LGrow w0 w (.slice (some ⟨g,0,none⟩) n c) ys) (hi : i < ys.length) (ho : Owns w w0.heap.size z.rows) (hf : FarL (rowsL ys) z.rows) (hfv : ∀ q ∈ z.rows,Far (some g) q.1.ownBlock) : LGrow w0 (setCells w g (i * 11) z.cells) (.slice (some ⟨g,0,none⟩) n c) (ys.set i z) ∧ w.grownBy (setCells w g (i * 11) z.cells) (some g):=by
 have hn : n = ys.length:=by have:=own_shape h.own; obtain ⟨A,c',e⟩:=this; simp at e; exact e.2.1
 subst hn
 obtain ⟨h1,h2⟩:=own_setCells z.cells (i * 11) (cellsL ys) w h.own (by rw [cellsL_len,Lr.cells_len]; omega)
 refine ⟨?_,h2⟩
 have hv : w0.heap.size ≤ g ∧ g < w.heap.size:=h.own.lt g rfl
 have hsub : (rowsL (ys.eraseIdx i)).Sublist (rowsL ys):=by
  have e : ys = ys.take i ++ (ys[i] :: ys.drop (i + 1)):=by rw [List.getElem_cons_drop,List.take_append_drop]
  rw [List.eraseIdx_eq_take_drop_succ,rowsL_app]
  conv=>rhs; rw [e,rowsL_app,show rowsL (ys[i] :: ys.drop (i + 1)) = ys[i].rows ++ rowsL (ys.drop (i + 1)) from rfl]
  exact (List.Sublist.refl _).append (List.sublist_append_right _ _)
 have hold : Owns w w0.heap.size (rowsL (ys.eraseIdx i)):=⟨fun p hp=>h.row.1 p (hsub.subset hp),h.row.2.sublist hsub⟩
 have hall : Owns w w0.heap.size (rowsL (ys.set i z)):=(hold.app ho (fun p hp q hq=>hf p (hsub.subset hp) q hq)).perm (rowsL_put hi z)
 have farA : ∀ q ∈ rowsL (ys.set i z),Far (some g) q.1.ownBlock:=by
  intro q hq
  rcases List.mem_append.mp ((rowsL_put hi z).mem_iff.mpr hq) with a | a
  ·exact h.br q (hsub.subset a)
  ·exact hfv q a
 have hT:=Turned.of_grown h2
 refine ⟨hT.below h.below h.below.size (fun k hk=>?_),?_,⟨fun p hp=>hT.own (hall.1 p hp) fun x hx=>?_,hall.2⟩,fun q hq=>farA q hq⟩
 ·simp only [List.mem_singleton,Option.some.injEq] at hk
  subst hk
  exact hv.1
 ·rw [cellsL_put hi z] at h1
  rw [List.length_set]
  exact h1
 ·simp only [List.mem_singleton] at hx
  subst hx
  exact (farA p hp).symm
theorem LGrow.other {w0 w w' : World} {v : Value} {ys : List Lr} {b : Nat} (h : LGrow w0 w v ys) (hg : w.grownBy w' (some b)) (hb : w0.heap.size ≤ b) (hv : v.ownBlock ≠ some b) (hr : ∀ q ∈ rowsL ys,q.1.ownBlock ≠ some b) : LGrow w0 w' v ys:=by
 have hT:=Turned.of_grown hg
 refine ⟨hT.below h.below h.below.size (fun k hk=>?_),h.own.kept hg (.inr hv),⟨fun p hp=>hT.own (h.row.1 p hp) fun x hx=>?_,h.row.2⟩,h.br⟩
 ·simp only [List.mem_singleton,Option.some.injEq] at hk
  subst hk; exact hb
 ·simp only [List.mem_singleton] at hx
  subst hx
  exact Far.of_ne (.inr (hr p hp))
def plc (ds : List Dt) (a b : Int) : Nat:=(ds.takeWhile fun d=>decide (cmpK d.A d.B a b < 0)).length
theorem plc_of {ds : List Dt} {a b : Int} {i : Nat} (hi : i ≤ ds.length) (h1 : ∀ (j : Nat) (d : Dt),j < i → ds[j]? = some d → cmpK d.A d.B a b < 0) (h2 : ∀ d : Dt,ds[i]? = some d → 0 ≤ cmpK d.A d.B a b) : plc ds a b = i:=by
 unfold plc
 induction ds generalizing i with
 | nil=>simp at hi; subst hi; rfl
 | cons d r ih=>
  cases i with
  | zero=>
   have:=h2 d rfl
   rw [List.takeWhile_cons_of_neg (by simpa using this)]
   rfl
  | succ i=>
   have:=h1 0 d (by omega) rfl
   rw [List.takeWhile_cons_of_pos (by simpa using this),List.length_cons,ih (by simpa using hi) (fun j d' hj hd=>h1 (j + 1) d' (by omega) hd) (fun d' hd=>h2 d' hd)]
def mrgD (d x : Dt) : Dt:=⟨d.A,d.B,d.P.add x.P,mgX d.P d.Q x.P x.Q,mgX d.P d.R x.P x.R⟩
def addD (ds : List Dt) (x : Dt) : Option (List Dt × Fr) :=
 match ds[plc ds x.A x.B]? with
 | none=>some (ds.take (plc ds x.A x.B) ++ x :: ds.drop (plc ds x.A x.B),Fr.of 0)
 | some d=>
  if cmpK d.A d.B x.A x.B = 0 then
   (if mwOk d.A d.B d.P d.Q d.R x.P x.Q x.R = true then some (ds.set (plc ds x.A x.B) (mrgD d x),mgE d.P d.Q d.R x.P x.Q x.R) else none)
  else some (ds.take (plc ds x.A x.B) ++ x :: ds.drop (plc ds x.A x.B),Fr.of 0)
structure LGrowE (w0 w : World) (v : Value) (ys : List Lr) (E : Fr) (e0 e1 : Value) : Prop where
 g : LGrow w0 w v ys
 en : Owns w w0.heap.size [(e0,ints E.xs),(e1,ints E.ys)]
 far : FarL (rowsL ys) [(e0,ints E.xs),(e1,ints E.ys)]
 farV : ∀ q ∈ [(e0,ints E.xs),(e1,ints E.ys)],Far v.ownBlock q.1.ownBlock
def OwnSE (r : Option (List Dt × Fr)) (w0 : World) (en : Ending) (w' : World) : Prop :=
 match r with
 | none=>en = .returned (.tuple #[.slice none 0 0,.agg #[.bool false,.slice none 0 0,.slice none 0 0],.bool false]) ∧ Below w0.heap.size w0 w'
 | some (ds,E)=>∃ v ys e0 e1,en = .returned (.tuple #[v,.agg #[.bool E.s,e0,e1],.bool true]) ∧ dts ys = ds ∧ LGrowE w0 w' v ys E e0 e1
theorem new_at_size (w : World) (o : Obj) : (w.alloc o).heap[w.heap.size]? = some o:=by
 rw [show (w.alloc o).heap = w.heap.push o from rfl]; simp
theorem setCell_grown (b m : Nat) (w : World) (u : Value) : w.grownBy (w.setCell ⟨b,m,none⟩ u) (some b) :=
 ⟨by simp [World.setCell],by simp [World.setCell],by simp [World.setCell],by simp,fun k hk hne=>Below.heap_setCell w ⟨b,m,none⟩ u k (fun e=>hne (by rw [e]))⟩
theorem setCells_grown (b : Nat) : ∀ (us : List Value) (m : Nat) (w : World),w.grownBy (setCells w b m us) (some b)
 | [],_,_=>World.grownBy.refl _ _
 | u :: us,m,w=>grown_grown (wr:=w.setCell ⟨b,m,none⟩ u) (setCell_grown b m w u) (setCells_grown b us (m + 1) (w.setCell ⟨b,m,none⟩ u))
theorem LGrow.stored {w0 w : World} {v : Value} {ys : List Lr} {b : Nat} (h : LGrow w0 w v ys) (hb : w0.heap.size ≤ b) (hv : v.ownBlock ≠ some b) (hr : ∀ q ∈ rowsL ys,q.1.ownBlock ≠ some b) (m : Nat) (us : List Value) : LGrow w0 (setCells w b m us) v ys:=h.other (setCells_grown b us m w) hb hv hr
theorem Owns.stored {w : World} {base b : Nat} {l : Chunk} (h : Owns w base l) (hr : ∀ q ∈ l,q.1.ownBlock ≠ some b) (m : Nat) (us : List Value) : Owns (setCells w b m us) base l:=by
 have hT:=Turned.of_grown (setCells_grown b us m w)
 refine ⟨fun p hp=>hT.own (h.1 p hp) fun x hx=>?_,h.2⟩
 simp only [List.mem_singleton] at hx
 subst hx
 exact Far.of_ne (.inr (hr p hp))
theorem Owns.grown {w w' : World} {base b : Nat} {l : Chunk} (h : Owns w base l) (hg : w.grownBy w' (some b)) (hr : ∀ q ∈ l,q.1.ownBlock ≠ some b) : Owns w' base l:=by
 have hT:=Turned.of_grown hg
 refine ⟨fun p hp=>hT.own (h.1 p hp) fun x hx=>?_,h.2⟩
 simp only [List.mem_singleton] at hx
 subst hx
 exact Far.of_ne (.inr (hr p hp))
theorem rowsL_put_mem {ys : List Lr} {i : Nat} {z : Lr} {q : Value × List Value} (h : q ∈ rowsL (ys.set i z)) : q ∈ rowsL ys ∨ q ∈ z.rows:=by
 simp only [rowsL,List.mem_flatMap] at h ⊢
 obtain ⟨y,hy,hq⟩:=h
 rcases List.mem_or_eq_of_mem_set hy with a | a
 ·exact .inl ⟨y,a,hq⟩
 ·exact .inr (a ▸ hq)
theorem LGrow.drew {w0 w : World} {v : Value} {ys : List Lr} (h : LGrow w0 w v ys) : LGrow w0 w.drew v ys:=h.call ((Below.refl _ _).drew)
theorem LGrow.apart {w0 w : World} {v : Value} {ys : List Lr} {b : Nat} {s : Bool} {r : List Value} (h : LGrow w0 w v ys) (hy : ys ≠ []) (hb : HeldL w b (.bool s :: r)) : v.ownBlock ≠ some b:=by
 intro e
 rcases h.own.2 with ⟨rfl,h0⟩ | ⟨g,cap,cur,rfl,_⟩
 ·cases e
 ·have e' : g = b:=by simpa [Value.ownBlock] using e
  subst e'
  cases ys with
  | nil=>exact hy rfl
  | cons y r' =>
   have h1:=h.own.cellAt 0 (by simp)
   have h2:=hb.cell 0 _ rfl
   have h3 : (w.cell? ⟨g,0,none⟩) = some (.int .i64 y.A):=cellsL_at (ys:=y :: r') (k:=0) rfl 0 (by rfl) |> fun h=>by rw [h1]; simpa using h
   rw [h2] at h3
   cases h3
theorem St.based {w0 w w' : World} {bs : List (Nat × List Value)} {cs : List Chunk} (h : St w w' bs cs) (hb : Below w0.heap.size w0 w) : St w0 w' bs cs :=
 ⟨hb.trans (h.below.mono hb.size),fun p hp=>⟨(h.box p hp).1,Nat.le_trans hb.size (h.box p hp).2⟩,fun l hl=>(h.row l hl).based hb.size,h.bb,h.cc,h.br⟩
theorem LGrow.old {w0 w : World} {v : Value} {ys : List Lr} {b : Nat} (h : LGrow w0 w v ys) (hb : w.heap.size ≤ b) : v.ownBlock ≠ some b ∧ ∀ q ∈ rowsL ys,q.1.ownBlock ≠ some b :=
 ⟨fun e=>by have:=(h.own.lt b e).2; omega,fun q hq e=>by have:=((h.row.1 q hq).lt b e).2; omega⟩
theorem Owns.young {w : World} {base b : Nat} {l : Chunk} (h : Owns w base l) (hb : b < base) : ∀ q ∈ l,q.1.ownBlock ≠ some b:=fun q hq e=>by have:=((h.1 q hq).lt b e).1; omega
theorem rowsL_ins_mem {ys : List Lr} {i : Nat} {z : Lr} {q : Value × List Value} (h : q ∈ rowsL (ys.take i ++ z :: ys.drop i)) : q ∈ rowsL ys ∨ q ∈ z.rows:=List.mem_append.mp ((rowsL_ins ys i z).mem_iff.mpr h)
theorem dts_ins (ys : List Lr) (i : Nat) (z : Lr) : dts (ys.take i ++ z :: ys.drop i) = (dts ys).take i ++ z.d :: (dts ys).drop i:=by simp [dts]
theorem dts_put (ys : List Lr) (i : Nat) (z : Lr) : dts (ys.set i z) = (dts ys).set i z.d:=by simp [dts]
theorem plc_place {ys : List Lr} {a b : Int} {i : Nat} {f : Bool} (h : PlaceAt ys a b i f) : plc (dts ys) a b = i:=by
 refine plc_of (by simpa [dts] using h.1) (fun j d hj hd=>?_) (fun d hd=>?_)
 ·simp only [dts,List.getElem?_map,Option.map_eq_some_iff] at hd
  obtain ⟨z,hz,rfl⟩:=hd
  exact h.2.1 j z hj hz
 ·simp only [dts,List.getElem?_map,Option.map_eq_some_iff] at hd
  obtain ⟨z,hz,rfl⟩:=hd
  exact (h.2.2.1 z hz).1
theorem add_miss {ys : List Lr} {x : Dt} {i : Nat} (h : PlaceAt ys x.A x.B i false) : addD (dts ys) x = some ((dts ys).take i ++ x :: (dts ys).drop i,Fr.of 0):=by
 unfold addD
 rw [plc_place h]
 cases hd : (dts ys)[i]? with
 | none=>rfl
 | some d=>
  have hd':=hd
  simp only [dts,List.getElem?_map,Option.map_eq_some_iff] at hd'
  obtain ⟨z,hz,rfl⟩:=hd'
  have h2:=(h.2.2.1 z hz).2
  have h3 : ¬ cmpK z.d.A z.d.B x.A x.B = 0:=by simpa [Lr.d] using h2.symm
  simp only [h3,if_false]
theorem add_hit {ys : List Lr} {x : Dt} {i : Nat} {y : Lr} (h : PlaceAt ys x.A x.B i true) (hy : ys[i]? = some y) : addD (dts ys) x = if mwOk y.A y.B y.P y.Q y.R x.P x.Q x.R = true then some ((dts ys).set i (mrgD y.d x),mgE y.P y.Q y.R x.P x.Q x.R) else none:=by
 unfold addD
 rw [plc_place h,dts_at hy]
 have h2:=(h.2.2.1 y hy).2
 have h3 : cmpK y.d.A y.d.B x.A x.B = 0:=by simpa [Lr.d] using h2.symm
 simp only [h3,if_true]
 rfl
theorem Turned.ofB {w w1 : World} {o : Option Nat} (h : Below w.heap.size w w1) : Turned w w1 [o]:=(Turned.of_below h (Nat.le_refl _)).mono (by simp)
theorem Turned.grownO {w w1 w2 : World} {o : Option Nat} (h : Turned w w1 [o]) (hg : w1.grownBy w2 o) : Turned w w2 [o]:=(h.trans (Turned.of_grown hg)).mono (by simp)
theorem Turned.callB {w w1 w2 : World} {o : Option Nat} (h : Turned w w1 [o]) (hb : Below w1.heap.size w1 w2) : Turned w w2 [o]:=(h.trans (Turned.of_below hb (Nat.le_refl _))).mono (by simp)
theorem Turned.box {w w1 : World} {o : Option Nat} {b : Nat} (h : Turned w w1 [o]) (hb : w.heap.size ≤ b) (m : Nat) (us : List Value) : Turned w (setCells w1 b m us) [o]:=by
 have hT:=Turned.of_grown (setCells_grown b us m w1)
 have h2:=h.trans hT
 refine ⟨h2.os,h2.tape,h2.output,h2.size,fun k hk hn=>h2.block k hk ?_⟩
 simp only [List.cons_append,List.nil_append,List.mem_cons,List.not_mem_nil,or_false,not_or,Option.some.injEq] at hn ⊢
 exact ⟨hn,by omega⟩
end Go.Proofs.YtodoiekbjjiocaaGreat
