/- A block that holds given cells, and how it is kept. Conditions: none. -/
import Derived.Test.YtdilbhkdkppodaaOwn
namespace Go.Proofs.Ytdilbhkdkppodaa
open Go.RowKit
set_option linter.unusedVariables false

/-- The block b holds the cells vs and may be written to. -/
structure HeldL (u : World) (b : Nat) (vs : List Value) : Prop where
  lt : b < u.heap.size
  cell : ∀ (j : Nat) (v : Value), vs[j]? = some v → u.cell? ⟨b, j, none⟩ = some v
  froz : ∀ (j : Nat) (v : Value), vs[j]? = some v → u.frozen? ⟨b, j, none⟩ = false
section
variable {u u' : World} {b : Nat} {vs : List Value}
theorem HeldL.same (h : HeldL u b vs) (hs : u.heap.size ≤ u'.heap.size) (e : u'.heap[b]? = u.heap[b]?) : HeldL u' b vs :=
  ⟨Nat.lt_of_lt_of_le h.lt hs, fun j v hj => (World.cell?_of_block (w := u) (a := ⟨b, j, none⟩) e).trans (h.cell j v hj), fun j v hj => (World.frozen?_of_block (w := u) (a := ⟨b, j, none⟩) e).trans (h.froz j v hj)⟩
theorem HeldL.after (h : HeldL u b vs) (hb : Below u.heap.size u u') : HeldL u' b vs := h.same hb.size (hb.block b h.lt)
theorem HeldL.drew (h : HeldL u b vs) : HeldL u.drew b vs := ⟨h.lt, h.cell, h.froz⟩
theorem HeldL.alloc (h : HeldL u b vs) (o : Obj) : HeldL (u.alloc o) b vs := h.after ((Below.refl _ _).alloc (Nat.le_refl _) o)
theorem HeldL.grown {row : Option Nat} (h : HeldL u b vs) (hg : u.grownBy u' row) (hne : some b ≠ row) : HeldL u' b vs := h.same hg.size (hg.block b h.lt hne)
theorem HeldL.setOther (h : HeldL u b vs) {p : Addr} (hp : b ≠ p.block) (v : Value) : HeldL (u.setCell p v) b vs := h.same (by simp) (Below.heap_setCell u p v b hp)
theorem HeldL.new (u : World) (vs : List Value) (t : TypeId) : HeldL (u.alloc (.cells vs.toArray t)) u.heap.size vs := by
  refine ⟨by simp, fun j v hj => ?_, fun j v hj => ?_⟩
  · simp [go_sem, hj]
  · simp [go_sem]
theorem HeldL.new_at (u : World) (b : Nat) (vs : List Value) (t : TypeId) (h : u.heap.size = b) : HeldL (u.alloc (.cells vs.toArray t)) b vs := h ▸ HeldL.new u vs t
theorem HeldL.set (h : HeldL u b vs) (j : Nat) (v w : Value) (hj : vs[j]? = some w) : HeldL (u.setCell ⟨b, j, none⟩ v) b (vs.set j v) := by
  refine ⟨by simp; exact h.lt, fun i x hi => ?_, fun i x hi => ?_⟩
  · rw [List.getElem?_set] at hi
    by_cases e : j = i
    · subst e
      have hl : j < vs.length := (List.getElem?_eq_some_iff.mp hj).1
      simp [hl] at hi
      subst hi
      exact World.cell?_setCell_same _ _ _ (h.cell j w hj)
    · rw [if_neg e] at hi
      exact (World.cell?_setCell_other _ _ _ _ (by simp only [ne_eq, Addr.mk.injEq, not_and]; omega)).trans (h.cell i x hi)
  · rw [World.frozen?_setCell]
    by_cases e : j = i
    · subst e; exact h.froz j w hj
    · rw [List.getElem?_set, if_neg e] at hi
      exact h.froz i x hi
end
end Go.Proofs.Ytdilbhkdkppodaa
