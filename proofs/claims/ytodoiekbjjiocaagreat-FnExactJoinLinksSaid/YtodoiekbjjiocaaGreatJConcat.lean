/- slices.Grow and slices.Concat over links. Conditions: none. -/
import Derived.Test.YtodoiekbjjiocaaGreatJPk
import Derived.Test.YtodoiekbjjiocaaGreatJGrow
import Derived.Lib.AppendZerosOnto
import Derived.Lib.SliceRun
import Derived.Lib.Walk
namespace Go.Proofs.YtodoiekbjjiocaaGreat
open Go.RowKit Nt Fr
set_option linter.unusedVariables false
theorem larg_cells {w : World} {A : Option Addr} {n : Nat} {zs : List Lr} (h : LArg w A n zs) {a : Addr} (hA : A = some a) (hn : 0 < n) : ∀ (j : Nat) (u : Value),(cellsL zs)[j]? = some u → w.cell? (a.add j) = some u:=by
 obtain ⟨g,o,e,hg,hc⟩:=h.row.2.1 hn
 obtain rfl : a = ⟨g,o,none⟩:=Option.some.inj (hA.symm.trans e)
 intro j u hj
 have hjl:=(List.getElem?_eq_some_iff.mp hj).1
 rw [cellsL_len] at hjl
 have hk : j / 11 < zs.length:=by omega
 have hq : (zs[j / 11].cells)[j % 11]? = some u:=by
  have h1:=cellsL_at (List.getElem?_eq_getElem hk) (j % 11) (v:=(zs[j / 11].cells)[j % 11]'(by rw [Lr.cells_len]; omega)) (List.getElem?_eq_getElem _)
  rw [show j / 11 * 11 + j % 11 = j by omega,hj] at h1
  rw [List.getElem?_eq_getElem (by rw [Lr.cells_len]; omega),Option.some.inj h1]
 rw [Addr.add_lit]
 have:=hc (j / 11) hk (j % 11) u hq
 rw [show o + j / 11 * 11 + j % 11 = o + j by omega] at this
 exact this
theorem larg_one {w : World} {A : Option Addr} {n : Nat} {zs : List Lr} (h : LArg w A n zs) : ∀ u ∈ cellsL zs,u.oneCell' = true:=by
 intro u hu
 obtain ⟨z,hz,hu⟩:=List.mem_flatMap.mp hu
 obtain ⟨A',B',P,Q,R,a0,n0,c0,a1,n1,c1,a2,n2,c2,a3,n3,c3,a4,n4,c4,a5,n5,c5,rfl⟩:=LArg.shapes (h.arg z hz)
 exact Lr.one_cells _ _ _ _ _ _ _ _ _ _ _ _ _ _ _ _ _ _ _ _ _ _ _ u hu
theorem wpList_append_links {P : Program} {w : World} {ops : Array Oper} {rest : List Oper} {o : Oper} {a : Act} {Q : Exit → Act → World → Prop} (hgd : o.guard = none) (s x : Operand) (t : TypeId)
 (ho : o.op = .call { callee:=.builtin .append,args:=#[s,x],argTypes:=#[t,t] })
 (base : Nat) (e : TypeId) (i : TypeInfo) (z : Value) (ht : P.underlying t = some (.slice e)) (hi : P.info? e = some i) (hz : i.zero = some z) (hsize : i.size = 11) (hby : i.bytes = 184) (hzs : z.cells.size = 11)
 (v : Value) (n : Nat) (xs : List Value) (hs : a.eval s = v) (hown : w.ownsRow base e 11 v n xs)
 (A : Option Addr) (m c : Nat) (zs : List Lr) (hx : a.eval x = .slice A m c) (hA : LArg w A m zs) (hnil : A = none → c = 0)
 (h63 : n + m ≤ 4194304) (hbase : base ≤ w.heap.size)
 (h : ∀ v' w',w'.ownsRow base e 11 v' (n + m) (xs ++ cellsL zs) → w.grownBy w' v.ownBlock → wpList P ops Q rest (a.put o.dst v') w') : wpList P ops Q (o :: rest) a w:=by
 have hzl:=hA.row.1
 cases A with
 | none=>
  obtain rfl : c = 0:=hnil rfl
  have hm : m = 0:=by
   rcases Nat.eq_zero_or_pos m with h0 | h0
   ·exact h0
   ·obtain ⟨g,o,e,_⟩:=hA.row.2.1 h0; simp at e
  subst hm
  obtain rfl : zs = []:=List.eq_nil_of_length_eq_zero hzl
  refine wpList_append_own_none hgd s x t ho base e i 11 ht hi v n xs hs hown hx ?_
  have:=h v w (by simpa [cellsL] using hown) (World.grownBy.refl _ _)
  exact this
 | some ad=>
  refine wpList_append_own w hgd s x t ho base e i z 11 184 ht hi hz hsize hby hzs (by decide) v n xs hs hown ad m c (cellsL zs) hx (by rw [cellsL_len,hzl]) ?_ (larg_one hA) (by unfold maxLen; omega) (by omega) hbase (fun v' w' h1 h2 _=>h v' w' h1 h2)
  rcases Nat.eq_zero_or_pos m with h0 | h0
  ·subst h0
   obtain rfl : zs = []:=List.eq_nil_of_length_eq_zero hzl
   intro j u hj; simp [cellsL] at hj
  ·exact larg_cells hA rfl h0
end Go.Proofs.YtodoiekbjjiocaaGreat
