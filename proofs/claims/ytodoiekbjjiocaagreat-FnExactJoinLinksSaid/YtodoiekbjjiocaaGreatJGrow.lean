/- Slices of links that grow, and that are handed back. Conditions: none. -/
import Derived.Test.YtodoiekbjjiocaaGreatJPk
import Derived.Test.YtodoiekbjjiocaaGreatJMarkL
import Derived.Test.YtodoiekbjjiocaaGreatJLinkOf
import Derived.Maps.AppendAt
namespace Go.Proofs.YtodoiekbjjiocaaGreat
open Go.RowKit Nt Fr
set_option linter.unusedVariables false
structure LGrow (w0 w : World) (v : Value) (ys : List Lr) : Prop where
 below : Below w0.heap.size w0 w
 own : w.ownsRow w0.heap.size 40 11 v ys.length (cellsL ys)
 row : Owns w w0.heap.size (rowsL ys)
 br : ∀ q ∈ rowsL ys,Far v.ownBlock q.1.ownBlock
section
variable {w0 w w' : World} {v : Value} {ys : List Lr}
theorem LGrow.nil {w0 w : World} (h : Below w0.heap.size w0 w) : LGrow w0 w (.slice none 0 0) []:=⟨h,World.ownsRow_nil _ _ _ _,Owns.nil _ _,by simp [rowsL]⟩
theorem LGrow.made {w0 w : World} (h : Below w0.heap.size w0 w) : LGrow w0 (w.alloc (.cells #[] 40)) (.slice (some ⟨w.heap.size,0,none⟩) 0 0) [] :=
 ⟨h.alloc h.size _,World.ownsRow_made (base:=w0.heap.size) (e:=40) (size:=11) w #[] 0 h.size (Nat.zero_le _) rfl,Owns.nil _ _,by simp [rowsL]⟩
theorem LGrow.call (h : LGrow w0 w v ys) (hb : Below w.heap.size w w') : LGrow w0 w' v ys:=⟨h.below.trans (hb.mono h.below.size),own_below h.own hb,h.row.below hb,h.br⟩
theorem LGrow.alloc (h : LGrow w0 w v ys) (o : Obj) : LGrow w0 (w.alloc o) v ys:=h.call ((Below.refl _ _).alloc (Nat.le_refl _) o)
theorem LGrow.app {w1 w2 : World} {v' : Value} {z : Lr} (h : LGrow w0 w v ys) (hb : Below w.heap.size w w1) (ho : Owns w1 w.heap.size z.rows) (hown : w2.ownsRow w0.heap.size 40 11 v' (ys.length + 1) (cellsL ys ++ z.cells)) (hg : w1.grownBy w2 v.ownBlock) (hloc : v'.ownBlock = v.ownBlock ∨ v'.ownBlock = some w1.heap.size) : LGrow w0 w2 v' (ys ++ [z]):=by
 have h1:=h.call hb
 have hv : ∀ k,v.ownBlock = some k → w0.heap.size ≤ k ∧ k < w.heap.size:=fun k hk=>h.own.lt k hk
 have far1 : ∀ q ∈ z.rows,Far v.ownBlock q.1.ownBlock:=fun q hq k e1 e2=>by
  have a:=((ho.1 q hq).lt k e2).1
  have b:=(hv k e1).2
  omega
 have ho' : Owns w1 w0.heap.size z.rows:=ho.based h.below.size
 have hall : Owns w1 w0.heap.size (rowsL (ys ++ [z])):=by
  rw [rowsL_app]
  have : rowsL [z] = z.rows:=by simp [rowsL]
  rw [this]
  exact h1.row.app ho' (h.row.newer ho (Nat.le_refl _)).symm
 have farA : ∀ q ∈ rowsL (ys ++ [z]),Far v.ownBlock q.1.ownBlock:=by
  intro q hq
  rw [rowsL_app] at hq
  rcases List.mem_append.mp hq with a | a
  ·exact h.br q a
  ·exact far1 q (by simpa [rowsL] using a)
 have hT:=Turned.of_grown hg
 refine ⟨hT.below h1.below h1.below.size (fun k hk=>?_),?_,⟨fun p hp=>hT.own (hall.1 p hp) fun x hx=>?_,hall.2⟩,fun q hq k e1 e2=>?_⟩
 ·simp only [List.mem_singleton] at hk
  exact (hv k hk.symm).1
 ·rw [cellsL_app,List.length_append]
  simpa [cellsL] using hown
 ·simp only [List.mem_singleton] at hx
  subst hx
  exact (farA p hp).symm
 ·rcases hloc with hl | hl
  ·exact farA q hq k (hl ▸ e1) e2
  ·rw [hl] at e1
   have:=((hall.1 q hq).lt k e2).2
   simp only [Option.some.injEq] at e1
   omega
end
def Lks (A : Option Addr) (n c : Nat) (ys : List Lr) (bO : List (Nat × List Value)) (cO : List Chunk) : Prop :=
 ys.length = n ∧ ((A = none ∧ n = 0 ∧ c = 0 ∧ bO = [] ∧ cO = []) ∨ ∃ b,A = some ⟨b,0,none⟩ ∧ bO = [(b,cellsL ys)] ∧ cO = [rowsL ys])
theorem LGrow.lks {w0 w : World} {v : Value} {ys : List Lr} (h : LGrow w0 w v ys) : ∃ A c bO cO,v = .slice A ys.length c ∧ Lks A ys.length c ys bO cO ∧ St w0 w bO cO:=by
 rcases h.own.2 with ⟨rfl,h0⟩ | ⟨g,cap,cur,rfl,hbase,hh,h1,h2,h3,h4⟩
 ·refine ⟨none,0,[],[],by rw [h0],⟨rfl,.inl ⟨rfl,h0,rfl,rfl,rfl⟩⟩,⟨h.below,by simp,by simp,.nil,.nil,by simp⟩⟩
 ·refine ⟨some ⟨g,0,none⟩,cap,[(g,cellsL ys)],[rowsL ys],rfl,⟨rfl,.inr ⟨g,rfl,rfl,rfl⟩⟩,⟨h.below,?_,?_,by simp,by simp,?_⟩⟩
  ·intro p hp
   simp only [List.mem_singleton] at hp
   subst hp
   refine ⟨⟨(h.own.lt g rfl).2,fun j u hj=>?_,fun j u hj=>h.own.frozenAt j⟩,hbase⟩
   have hj':=(List.getElem?_eq_some_iff.mp hj).1
   rw [cellsL_len] at hj'
   rw [h.own.cellAt j (by omega)]; exact hj
  ·intro l hl
   simp only [List.mem_singleton] at hl
   subst hl
   exact h.row
  ·intro p hp l hl q hq
   simp only [List.mem_singleton] at hp hl
   subst hp hl
   exact h.br q hq
section
variable {w0 w : World} {bs bO : List (Nat × List Value)} {cs cO : List Chunk} {A : Option Addr} {n c : Nat} {ys : List Lr}
theorem St.lksRow (h : St w0 w bs cs) (hk : Lks A n c ys bO cO) (hb : ∀ p ∈ bO,p ∈ bs) (hc : ∀ p ∈ cO,p ∈ cs) : LRow w A n ys:=by
 obtain ⟨rfl,hk | ⟨b,rfl,rfl,rfl⟩⟩:=hk
 ·obtain ⟨rfl,h0,rfl,rfl,rfl⟩:=hk
  have : ys = []:=List.eq_nil_of_length_eq_zero h0
  subst this
  exact ⟨rfl,fun hp=>by simp at hp,by simp⟩
 ·obtain ⟨i,hi⟩:=List.mem_iff_getElem?.mp (hb (b,cellsL ys) (by simp))
  obtain ⟨j,hj⟩:=List.mem_iff_getElem?.mp (hc (rowsL ys) (by simp))
  exact h.lrow i j hi hj
theorem St.swap (h : St w0 w (bO ++ bs) (cO ++ cs)) : St w0 w (bs ++ bO) (cs ++ cO):=h.perm List.perm_append_comm List.perm_append_comm
end
set_option maxRecDepth 100000 in
theorem markLinkS_nil (K : Int) (w : World) : Calls Tryz.prog 14 #[.slice none 0 0,.int .i64 K] w fun e w' =>e = .returned (.int .i64 K) ∧ w' = w:=by
 go_enter Tryz.func14,Tryz.ntmps14
 go_wp2
 refine wp_loop_rounds 1 ?_
 rw [rounds_succ]
 go_wp2
 go_ret
 exact ⟨rfl,rfl⟩
theorem markLinkS_o (A : Option Addr) (n c k : Nat) (K : Int) (hK : K = (k : Int)) (ys : List Lr) (w0 w : World) (bO bs : List (Nat × List Value)) (cO cs : List Chunk) (hk : Lks A n c ys bO cO) (hS : St w0 w (bO ++ bs) (cO ++ cs)) (hn : k + 5 * n + lensL ys ≤ 1073741824) :
 Calls Tryz.prog 14 #[.slice A n c,.int .i64 K] w fun e w' =>e = .returned (.int .i64 ((k + 5 * n + lensL ys : Nat) : Int)) ∧ ∃ bO' cO',Lks A n c (markLs k ys) bO' cO' ∧ St w0 w' (bO' ++ bs) (cO' ++ cs):=by
 subst hK
 obtain ⟨hl,hk | ⟨b,rfl,rfl,rfl⟩⟩:=hk
 ·obtain ⟨rfl,rfl,rfl,rfl,rfl⟩:=hk
  obtain rfl : ys = []:=List.eq_nil_of_length_eq_zero hl
  refine (markLinkS_nil _ w).mono ?_
  rintro e w' ⟨rfl,rfl⟩
  exact ⟨by simp [lensL],[],[],⟨rfl,.inl ⟨rfl,rfl,rfl,rfl,rfl⟩⟩,hS⟩
 ·refine (markLinkS_f b n c k _ rfl ys w0 w bs cs hl hS hn).mono ?_
  rintro e w' ⟨rfl,hst⟩
  exact ⟨rfl,[(b,cellsL (markLs k ys))],[rowsL (markLs k ys)],⟨by rw [markLs_length]; exact hl,.inr ⟨b,rfl,rfl,rfl⟩⟩,hst⟩
set_option maxRecDepth 100000 in
theorem heldLinkS_nil (K : Int) (w : World) : Calls Tryz.prog 17 #[.slice none 0 0,.int .i64 K] w fun e w' =>e = .returned (.int .i64 K) ∧ w' = w:=by
 go_enter Tryz.func17,Tryz.ntmps17
 go_wp2
 refine wp_loop_rounds 1 ?_
 rw [rounds_succ]
 go_wp2
 go_ret
 exact ⟨rfl,rfl⟩
theorem heldLinkS_o (A : Option Addr) (n c k : Nat) (K : Int) (hK : K = (k : Int)) (ys : List Lr) (w0 w : World) (bO bs : List (Nat × List Value)) (cO cs : List Chunk) (hl : ys.length = n) (hk : Lks A n c (markLs k ys) bO cO) (hS : St w0 w (bO ++ bs) (cO ++ cs)) (hn : k + 5 * n + lensL ys ≤ 1073741824) :
 Calls Tryz.prog 17 #[.slice A n c,.int .i64 K] w fun e w' =>e = .returned (.int .i64 ((k + 5 * n + lensL ys : Nat) : Int)) ∧ Below w.heap.size w w':=by
 subst hK
 obtain ⟨_,hk | ⟨b,rfl,rfl,rfl⟩⟩:=hk
 ·obtain ⟨rfl,rfl,rfl,rfl,rfl⟩:=hk
  obtain rfl : ys = []:=List.eq_nil_of_length_eq_zero hl
  refine (heldLinkS_nil _ w).mono ?_
  rintro e w' ⟨rfl,rfl⟩
  exact ⟨by simp [lensL],Below.refl _ _⟩
 ·exact heldLinkS_f b n c k _ rfl ys w0 w bs cs hl hS hn
def OwnLs (ds : List Dt) (w : World) (e : Ending) (w' : World) : Prop:=∃ v ys,e = .returned v ∧ dts ys = ds ∧ LGrow w w' v ys
def lensD : List Dt → Nat
 | []=>0
 | d :: r=>d.P.len + d.Q.len + d.R.len + lensD r
theorem lensD_dts (ys : List Lr) : lensD (dts ys) = lensL ys:=by
 induction ys with
 | nil=>rfl
 | cons y r ih=>simp only [dts,List.map_cons,lensD,lensL] at *; rw [ih]; rfl
theorem dts_app (a b : List Lr) : dts (a ++ b) = dts a ++ dts b:=by simp [dts]
theorem dts_len (a : List Lr) : (dts a).length = a.length:=by simp [dts]
theorem Lr.one_cells (A B : Int) (P Q R : Fr) (a0 a1 a2 a3 a4 a5 : Option Addr) (n0 n1 n2 n3 n4 n5 c0 c1 c2 c3 c4 c5 : Nat) : ∀ u ∈ (⟨A,B,P,Q,R,.slice a0 n0 c0,.slice a1 n1 c1,.slice a2 n2 c2,.slice a3 n3 c3,.slice a4 n4 c4,.slice a5 n5 c5⟩ : Lr).cells,u.oneCell' = true:=by
 intro u hu
 simp only [Lr.cells,List.mem_cons,List.not_mem_nil,or_false] at hu
 rcases hu with rfl | rfl | rfl | rfl | rfl | rfl | rfl | rfl | rfl | rfl | rfl <;> rfl
theorem cells_new (w : World) (vs : List Value) (T : TypeId) : ∀ j u,vs[j]? = some u → (w.alloc (.cells vs.toArray T)).cell? ((⟨w.heap.size,0,none⟩ : Addr).add j) = some u:=by
 intro j u hj
 rw [Addr.add_lit,Nat.zero_add]
 exact (HeldL.new w vs T).cell j u hj
end Go.Proofs.YtodoiekbjjiocaaGreat
