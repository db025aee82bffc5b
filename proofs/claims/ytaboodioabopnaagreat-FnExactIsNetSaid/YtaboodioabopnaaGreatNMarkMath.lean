/- Slices of links: how marks are kept. Conditions: none. -/
import Derived.Test.YtaboodioabopnaaGreatNLinks
namespace Go.Proofs.YtaboodioabopnaaGreat
open Go.RowKit Nt Fr
set_option linter.unusedVariables false
section
variable {w0 w w' : World} {bs bs' : List (Nat × List Value)} {cs cs' : List Chunk}
theorem St.perm (h : St w0 w bs cs) (hb : bs'.Perm bs) (hc : cs'.Perm cs) : St w0 w bs' cs' :=
 ⟨h.below, fun p hp => h.box p (hb.subset hp), fun p hp => h.row p (hc.subset hp), (hb.pairwise_iff (fun {p q} (e : p.1 ≠ q.1) => e.symm)).mpr h.bb, (hc.pairwise_iff (fun {p q} (e : FarL p q) => e.symm)).mpr h.cc, fun p hp q hq => h.br p (hb.subset hp) q (hc.subset hq)⟩
end
theorem Lr.cells_len (z : Lr) : z.cells.length = 11 := rfl
section
variable {w0 w w' : World} {bs : List (Nat × List Value)} {cs : List Chunk} {b m t : Nat} {zs : List Lr} {z z' : Lr}
end
end Go.Proofs.YtaboodioabopnaaGreat
