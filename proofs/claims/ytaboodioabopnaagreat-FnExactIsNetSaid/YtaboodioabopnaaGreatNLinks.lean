/- Slices of links: how they read, and the laws' own helpers szLinkS, toLinkS, eqLinkS. Conditions: none. -/
import Derived.Test.YtaboodioabopnaaGreatNLkBase
namespace Go.Proofs.YtaboodioabopnaaGreat
open Go.RowKit Nt Fr
set_option linter.unusedVariables false
structure Lr where
 A : Int
 B : Int
 P : Fr
 Q : Fr
 R : Fr
 p0 : Value
 p1 : Value
 q0 : Value
 q1 : Value
 r0 : Value
 r1 : Value
namespace Lr
def cells (z : Lr) : List Value := [.int .i64 z.A, .int .i64 z.B, .bool z.P.s, z.p0, z.p1, .bool z.Q.s, z.q0, z.q1, .bool z.R.s, z.r0, z.r1]
def rows (z : Lr) : Chunk := rowsK z.P z.Q z.R z.p0 z.p1 z.q0 z.q1 z.r0 z.r1
def len (z : Lr) : Nat := z.P.len + z.Q.len + z.R.len
def rd (w : World) (z : Lr) : Prop := LkI w z.P z.Q z.R z.p0 z.p1 z.q0 z.q1 z.r0 z.r1
end Lr
def LRow (w : World) (A : Option Addr) (n : Nat) (zs : List Lr) : Prop :=
 zs.length = n ∧ (0 < n → ∃ g o, A = some ⟨g, o, none⟩ ∧ g < w.heap.size ∧ ∀ k (hk : k < zs.length) (j : Nat) (v : Value), (zs[k].cells)[j]? = some v → w.cell? ⟨g, o + k * 11 + j, none⟩ = some v) ∧ ∀ z ∈ zs, z.rd w
section
variable {w w' : World} {A : Option Addr} {n : Nat} {zs : List Lr}
theorem LRow.below (h : LRow w A n zs) (hb : Below w.heap.size w w') : LRow w' A n zs := by
 refine ⟨h.1, fun hn => ?_, fun z hz => (h.2.2 z hz).below hb⟩
 obtain ⟨g, o, rfl, hg, hc⟩ := h.2.1 hn
 exact ⟨g, o, rfl, Nat.lt_of_lt_of_le hg hb.size, fun k hk j v hj => (hb.cell (p := ⟨g, o + k * 11 + j, none⟩) hg).trans (hc k hk j v hj)⟩
theorem LRow.at_ (h : LRow w A n zs) {k : Nat} (hk : k < n) : ∃ g o z, A = some ⟨g, o, none⟩ ∧ g < w.heap.size ∧ zs[k]? = some z ∧ z.rd w ∧ ∀ (j : Nat) (v : Value), (z.cells)[j]? = some v → w.cell? ⟨g, o + k * 11 + j, none⟩ = some v := by
 obtain ⟨g, o, e, hg, hc⟩ := h.2.1 (by omega)
 have hk' : k < zs.length := by rw [h.1]; exact hk
 exact ⟨g, o, zs[k], e, hg, List.getElem?_eq_getElem hk', h.2.2 _ (List.getElem_mem hk'), hc k hk'⟩
end
def lensL : List Lr → Nat
 | [] => 0
 | z :: zs => z.len + lensL zs
theorem lensL_app (a b : List Lr) : lensL (a ++ b) = lensL a + lensL b := by
 induction a with
 | nil => simp [lensL]
 | cons z r ih => simp [lensL, ih]; omega
theorem lensL_take_succ {zs : List Lr} {k : Nat} {z : Lr} (h : zs[k]? = some z) : lensL (zs.take (k + 1)) = lensL (zs.take k) + z.len := by
 obtain ⟨hk, e⟩ := List.getElem?_eq_some_iff.mp h
 rw [List.take_succ_eq_append_getElem hk, lensL_app, e]; simp [lensL]
theorem lensL_take_le (zs : List Lr) (k : Nat) : lensL (zs.take k) ≤ lensL zs := by
 have := lensL_app (zs.take k) (zs.drop k)
 rw [List.take_append_drop] at this; omega
theorem len_le {zs : List Lr} {k : Nat} {z : Lr} (h : zs[k]? = some z) : z.len ≤ lensL zs := by
 have h1 := lensL_take_succ h
 have h2 := lensL_take_le zs (k + 1)
 omega
theorem St.join {w0 w : World} {bs : List (Nat × List Value)} {cs : List Chunk} {l m : Chunk} (h : St w0 w bs (l :: m :: cs)) : St w0 w bs ((m ++ l) :: cs) := by
 have hc := List.pairwise_cons.mp h.cc
 have hd := List.pairwise_cons.mp hc.2
 refine ⟨h.below, h.box, fun q hq => ?_, h.bb, List.pairwise_cons.mpr ⟨fun q hq p hp => ?_, hd.2⟩, fun p hp q hq r hr => ?_⟩
 · rcases List.mem_cons.mp hq with rfl | a
   · exact (h.row m (by simp)).app (h.row l (by simp)) ((hc.1 m (by simp)).symm)
   · exact h.row q (by simp [a])
 · rcases List.mem_append.mp hp with a | a
   · exact hd.1 q hq p a
   · exact hc.1 q (by simp [hq]) p a
 · rcases List.mem_cons.mp hq with rfl | a
   · rcases List.mem_append.mp hr with a | a
     · exact h.br p hp m (by simp) r a
     · exact h.br p hp l (by simp) r a
   · exact h.br p hp q (by simp [a]) r hr
end Go.Proofs.YtaboodioabopnaaGreat
