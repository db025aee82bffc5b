/- A link set in among those of a slice of the call's own: what the slice is worth afterwards. Conditions: none. -/
import Derived.Test.YtodoiekbjjiocaaGreatJPk
import Derived.Test.YtodoiekbjjiocaaGreatJInsert
namespace Go.Proofs.YtodoiekbjjiocaaGreat
open Go.RowKit Nt Fr
set_option linter.unusedVariables false
theorem Owns.perm {w : World} {base : Nat} {l m : Chunk} (h : Owns w base l) (hp : l.Perm m) : Owns w base m :=
 ⟨fun p hp' =>h.1 p (hp.mem_iff.mpr hp'),(hp.pairwise_iff (fun {x y} h=>h.symm)).mp h.2⟩
theorem rowsL_ins (ys : List Lr) (i : Nat) (z : Lr) : (rowsL ys ++ z.rows).Perm (rowsL (ys.take i ++ z :: ys.drop i)):=by
 have h : (ys ++ [z]).Perm (ys.take i ++ z :: ys.drop i):=by
  refine (List.perm_append_singleton z ys).trans ?_
  refine List.Perm.trans ?_ List.perm_middle.symm
  rw [List.take_append_drop]
 have h2:=List.Perm.flatMap_right Lr.rows h
 have e : (ys ++ [z]).flatMap Lr.rows = rowsL ys ++ z.rows:=by simp [rowsL]
 rw [e] at h2
 exact h2
theorem cellsL_take (ys : List Lr) (i : Nat) : (cellsL ys).take (i * 11) = cellsL (ys.take i):=by
 by_cases hi : i ≤ ys.length
 ·have e : cellsL ys = cellsL (ys.take i) ++ cellsL (ys.drop i):=by rw [← cellsL_app,List.take_append_drop]
  rw [e,List.take_append_of_le_length (by rw [cellsL_len]; simp; omega),List.take_of_length_le (by rw [cellsL_len]; simp; omega)]
 ·rw [List.take_of_length_le (by rw [cellsL_len]; omega),List.take_of_length_le (by omega)]
theorem cellsL_drop (ys : List Lr) (i : Nat) : (cellsL ys).drop (i * 11) = cellsL (ys.drop i):=by
 by_cases hi : i ≤ ys.length
 ·have e : cellsL ys = cellsL (ys.take i) ++ cellsL (ys.drop i):=by rw [← cellsL_app,List.take_append_drop]
  rw [e,List.drop_append_of_le_length (by rw [cellsL_len]; simp; omega),List.drop_of_length_le (by rw [cellsL_len]; simp; omega),List.nil_append]
 ·rw [List.drop_of_length_le (by rw [cellsL_len]; omega),List.drop_of_length_le (by omega)]
  rfl
theorem cellsL_ins (ys : List Lr) (i : Nat) (z : Lr) : cellsL (ys.take i ++ z :: ys.drop i) = (cellsL ys).take (i * 11) ++ z.cells ++ (cellsL ys).drop (i * 11):=by
 rw [cellsL_take,cellsL_drop,cellsL_app,List.append_assoc]
 rfl
theorem lr_one {w : World} {base : Nat} {z : Lr} (h : Owns w base z.rows) : ∀ u ∈ z.cells,u.oneCell' = true:=by
 obtain ⟨A,B,P,Q,R,p0,p1,q0,q1,r0,r1⟩:=z
 obtain ⟨a0,n0,c0,rfl⟩:=(h.at_ (v:=p0) (X:=ints P.xs) 0 rfl).shape3
 obtain ⟨a1,n1,c1,rfl⟩:=(h.at_ (v:=p1) (X:=ints P.ys) 1 rfl).shape3
 obtain ⟨a2,n2,c2,rfl⟩:=(h.at_ (v:=q0) (X:=ints Q.xs) 2 rfl).shape3
 obtain ⟨a3,n3,c3,rfl⟩:=(h.at_ (v:=q1) (X:=ints Q.ys) 3 rfl).shape3
 obtain ⟨a4,n4,c4,rfl⟩:=(h.at_ (v:=r0) (X:=ints R.xs) 4 rfl).shape3
 obtain ⟨a5,n5,c5,rfl⟩:=(h.at_ (v:=r1) (X:=ints R.ys) 5 rfl).shape3
 intro u hu
 simp only [Lr.cells,List.mem_cons,List.not_mem_nil,or_false] at hu
 rcases hu with rfl | rfl | rfl | rfl | rfl | rfl | rfl | rfl | rfl | rfl | rfl <;> rfl
theorem cellsL_one {w : World} {base : Nat} {ys : List Lr} (h : Owns w base (rowsL ys)) : ∀ u ∈ cellsL ys,u.oneCell' = true:=by
 intro u hu
 obtain ⟨z,hz,hu⟩:=List.mem_flatMap.mp hu
 obtain ⟨l1,l2,e⟩:=List.append_of_mem hz
 have h2 : Owns w base z.rows:=by
  rw [e,rowsL_app] at h
  have:=h.right
  rw [show rowsL (z :: l2) = z.rows ++ rowsL l2 from rfl] at this
  exact this.left
 exact lr_one h2 u hu
theorem LGrow.ins {w0 w w2 : World} {v v' : Value} {ys : List Lr} {z : Lr} {i : Nat} (h : LGrow w0 w v ys) (hi : i ≤ ys.length) (ho : Owns w w0.heap.size z.rows) (hf : FarL (rowsL ys) z.rows) (hfv : ∀ q ∈ z.rows,Far v.ownBlock q.1.ownBlock)
 (hown : w2.ownsRow w0.heap.size 40 11 v' (ys.length + 1) ((cellsL ys).take (i * 11) ++ z.cells ++ (cellsL ys).drop (i * 11))) (hg : w.grownBy w2 v.ownBlock) (hloc : v'.ownBlock = v.ownBlock ∨ v'.ownBlock = some w.heap.size) : LGrow w0 w2 v' (ys.take i ++ z :: ys.drop i):=by
 have hv : ∀ k,v.ownBlock = some k → w0.heap.size ≤ k ∧ k < w.heap.size:=fun k hk=>h.own.lt k hk
 have hall : Owns w w0.heap.size (rowsL (ys.take i ++ z :: ys.drop i)):=(h.row.app ho hf).perm (rowsL_ins ys i z)
 have farA : ∀ q ∈ rowsL (ys.take i ++ z :: ys.drop i),Far v.ownBlock q.1.ownBlock:=by
  intro q hq
  rcases List.mem_append.mp ((rowsL_ins ys i z).mem_iff.mpr hq) with a | a
  ·exact h.br q a
  ·exact hfv q a
 have hT:=Turned.of_grown hg
 refine ⟨hT.below h.below h.below.size (fun k hk=>?_),?_,⟨fun p hp=>hT.own (hall.1 p hp) fun x hx=>?_,hall.2⟩,fun q hq k e1 e2=>?_⟩
 ·simp only [List.mem_singleton] at hk
  exact (hv k hk.symm).1
 ·rw [cellsL_ins]
  have : (ys.take i ++ z :: ys.drop i).length = ys.length + 1:=by simp; omega
  rw [this]
  exact hown
 ·simp only [List.mem_singleton] at hx
  subst hx
  exact (farA p hp).symm
 ·rcases hloc with hl | hl
  ·exact farA q hq k (hl ▸ e1) e2
  ·rw [hl] at e1
   have:=((hall.1 q hq).lt k e2).2
   simp only [Option.some.injEq] at e1
   omega
theorem insert_f (v : Value) (i vb : Nat) (ys : List Lr) (z : Lr) (w0 w : World) (h : LGrow w0 w v ys) (hi : i ≤ ys.length) (hn : ys.length ≤ 1048576) (ho : Owns w w0.heap.size z.rows) (hf : FarL (rowsL ys) z.rows) (hfv : ∀ q ∈ z.rows,Far v.ownBlock q.1.ownBlock)
 (hvb : w.heap[vb]? = some (.cells z.cells.toArray 40 (0,0))) (hne : v.ownBlock ≠ some vb) :
 Calls Tryz.prog 62 #[v,.int .i64 (i : Int),.slice (some ⟨vb,0,none⟩) 1 1] w fun e w' =>
  ∃ v',e = .returned v' ∧ LGrow w0 w' v' (ys.take i ++ z :: ys.drop i) ∧ w.grownBy w' v.ownBlock:=by
 have hcell : ∀ j u,z.cells[j]? = some u → w.cell? ⟨vb,j,none⟩ = some u:=fun j u hj=>by simp [World.cell?,hvb]; exact hj
 by_cases hin : i = ys.length
 ·subst hin
  refine (insertEnd_f v ys.length (cellsL ys) z.cells w0.heap.size vb w h.own (by omega) h.below.size rfl hcell (lr_one ho)).mono ?_
  rintro e w' ⟨v',rfl,a1,a2,a3⟩
  refine ⟨v',rfl,h.ins (Nat.le_refl _) ho hf hfv ?_ a2 a3,a2⟩
  rw [List.take_of_length_le (by rw [cellsL_len]; omega),List.drop_of_length_le (by rw [cellsL_len]; omega),List.append_nil]
  exact a1
 ·have hil : i < ys.length:=by omega
  rcases h.own.2 with ⟨rfl,h0⟩ | ⟨g,cap,cur,rfl,hbase,hh,h1,h2,h3,h4⟩
  ·omega
  ·have hcl : cur.toList.length = cap * 11:=by simpa using h3
   have hgh : w.heap[g]? = some (.cells cur.toList.toArray 40 (0,0)):=by simpa using hh
   have hgv : vb ≠ g:=fun e=>hne (by simp [Value.ownBlock,e])
   by_cases hc : ys.length < cap
   ·refine (insertShift_f g ys.length cap i (cellsL ys) z.cells cur.toList w0.heap.size vb w hgh h4 hcl (cellsL_one h.row) hil hc h2 rfl hvb hgv (lr_one ho)).mono ?_
    rintro e w' ⟨rfl,cur',b1,b2,b3,b4⟩
    refine ⟨_,rfl,h.ins hi ho hf hfv ?_ b4 (.inl rfl),b4⟩
    exact ⟨by rw [← b3,List.length_take,b2]; omega,.inr ⟨g,cap,cur'.toArray,rfl,hbase,b1,by omega,h2,by simpa using b2,by simpa using b3⟩⟩
   ·refine (insertGrow_f g ys.length cap i (cellsL ys) z.cells cur.toList vb w hgh h4 hcl (cellsL_one h.row) hil (by omega) (by omega) rfl hvb (lr_one ho)).mono ?_
    rintro e w' ⟨G,rfl,g1,g2,cur',b1,b2,b3,b4⟩
    have b4' : w.grownBy w' (some g):=⟨b4.os,b4.tape,b4.output,b4.size,fun k hk _=>b4.block k hk (by simp)⟩
    refine ⟨_,rfl,h.ins hi ho hf hfv ?_ b4' (.inr rfl),b4'⟩
    exact ⟨by rw [← b3,List.length_take,b2]; omega,.inr ⟨w.heap.size,G,cur'.toArray,rfl,h.below.size,b1,by omega,g2,by simpa using b2,by simpa using b3⟩⟩
end Go.Proofs.YtodoiekbjjiocaaGreat
