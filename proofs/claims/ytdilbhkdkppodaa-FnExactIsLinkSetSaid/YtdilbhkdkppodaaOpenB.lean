/- A big integer among a law's arguments, opened; blocks and rows apart. Conditions: none. -/
import Derived.Test.YtdilbhkdkppodaaOpen
import Derived.Test.YtdilbhkdkppodaaHelpB
import Derived.Lib.SmallJoins
import Derived.Deep.DeepCutAuto
namespace Go.Proofs.Ytdilbhkdkppodaa
open Go.ChangeShapes Go.WideShapes Go.ChangeAt Go.RowKit Go.Joins Go.Deep
set_option linter.unusedVariables false

section
variable {H : Type} {enc : TypeId × Value → H} {P : Program} {w : World}
theorem isBig_of {t e : TypeId} {f0 f1 : Field} {k : IntKind} {r : Reach} {b0 : Nat} {v : Value} {d : DataW H} {p : List MemPlace} (hs : P.underlying t = some (.struct #[f0, f1])) (hone : oneCellFields P #[f0, f1] = true) (hC : P.cellsOf t = 2)
    (h0 : P.underlying f0.type = some .bool) (h1 : P.underlying f1.type = some (.slice e)) (he : P.underlying e = some (.int k)) (hc : P.cellsOf e = 1)
    (hv : Value.okWide P w r b0 t v) (h : DataW.Trod enc P w 0 (fun _ => true) true t v d p) : ∃ s a len cap zs, v = .agg #[.bool s, .slice a len cap] ∧ IsInts k w a len cap zs := by
  obtain ⟨c0, c1, y0, y1, m, rfl, rfl, rfl, hy0, hy1⟩ := open_agg2 hs hone hC hv h
  obtain ⟨s, e0, _⟩ := DataW.trod_bool h0 hy0
  obtain ⟨a, l, c, e1⟩ := slice_form h1 hy1
  simp at e0 e1
  subst e0 e1
  obtain ⟨zs, hz⟩ := isInts_of h1 he hc (⟨m, by simpa [Value.cells] using hy1⟩ : DataW.Trod enc P w 0 (fun _ => true) true f1.type (.slice a l c) y1.1 y1.2)
  exact ⟨s, a, l, c, zs, rfl, hz⟩
end
theorem OwnV.bn {w : World} {base g : Nat} {e : TypeId} {v : Value} {xs : List Value} (h : OwnV w base e v xs) (hg : g < base) : some g ≠ v.ownBlock := by
  intro he
  have := (h.lt g he.symm).1
  omega
theorem OwnV.bn_new {w : World} {base : Nat} {e : TypeId} {v : Value} {xs : List Value} (h : OwnV w base e v xs) : some w.heap.size ≠ v.ownBlock := by
  intro he
  have := (h.lt _ he.symm).2
  omega
theorem OwnV.setOther {w : World} {base : Nat} {e : TypeId} {v : Value} {xs : List Value} (h : OwnV w base e v xs) {a : Addr} (hne : some a.block ≠ v.ownBlock) (u : Value) : OwnV (w.setCell a u) base e v xs := by
  refine h.kept (row := some a.block) ⟨rfl, rfl, rfl, by simp, fun k hk hn => Below.heap_setCell w a u k (fun e => hn (by rw [e]))⟩ (.inr fun e => hne e.symm)
end Go.Proofs.Ytdilbhkdkppodaa
