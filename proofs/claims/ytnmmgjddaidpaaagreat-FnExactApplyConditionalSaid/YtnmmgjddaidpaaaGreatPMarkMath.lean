/- Slices of links: how marks are kept. Conditions: none. -/
import Derived.Test.YtnmmgjddaidpaaaGreatPLinks
namespace Go.Proofs.YtnmmgjddaidpaaaGreat
open Go.RowKit Nt Fr
set_option linter.unusedVariables false
section
variable {w0 w w' : World} {bs bs' : List (Nat × List Value)} {cs cs' : List Chunk}
theorem St.perm (h : St w0 w bs cs) (hb : bs'.Perm bs) (hc : cs'.Perm cs) : St w0 w bs' cs' :=
 ⟨h.below, fun p hp => h.box p (hb.subset hp), fun p hp => h.row p (hc.subset hp), (hb.pairwise_iff (fun {p q} (e : p.1 ≠ q.1) => e.symm)).mpr h.bb, (hc.pairwise_iff (fun {p q} (e : FarL p q) => e.symm)).mpr h.cc, fun p hp q hq => h.br p (hb.subset hp) q (hc.subset hq)⟩
theorem cons_erase_perm {α : Type} {l : List α} {i : Nat} {x : α} (h : l[i]? = some x) : (x :: l.eraseIdx i).Perm l := by
 induction l generalizing i with
 | nil => simp at h
 | cons y r ih =>
   cases i with
   | zero => simp at h; subst h; simp
   | succ i =>
     simp at h
     exact (List.Perm.swap y x (r.eraseIdx i)).trans ((ih h).cons y)
theorem St.front (h : St w0 w bs cs) (i j : Nat) {p : Nat × List Value} {l : Chunk} (e : bs[i]? = some p) (e2 : cs[j]? = some l) : St w0 w (p :: bs.eraseIdx i) (l :: cs.eraseIdx j) := h.perm (cons_erase_perm e) (cons_erase_perm e2)
theorem St.frontC (h : St w0 w bs cs) (j : Nat) {l : Chunk} (e2 : cs[j]? = some l) : St w0 w bs (l :: cs.eraseIdx j) := h.perm (List.Perm.refl _) (cons_erase_perm e2)
end
theorem Lr.cells_len (z : Lr) : z.cells.length = 11 := rfl
theorem Lr.rows_len (z : Lr) : z.rows.length = 6 := rfl
section
variable {w0 w w' : World} {bs : List (Nat × List Value)} {cs : List Chunk} {b m t : Nat} {zs : List Lr} {z z' : Lr}
end
def marksZ (k n : Nat) : List Int := (List.range n).map fun i => ((k + i : Nat) : Int)
theorem ints_marksZ (k n : Nat) : ints (marksZ k n) = marksI k n := by simp [ints, marksZ, marksI]
def markFr (k : Nat) (F : Fr) : Fr := ⟨k % 3 == 0, marksZ (k + 1) F.xs.length, marksZ (k + 1 + F.xs.length) F.ys.length⟩
end Go.Proofs.YtnmmgjddaidpaaaGreat
