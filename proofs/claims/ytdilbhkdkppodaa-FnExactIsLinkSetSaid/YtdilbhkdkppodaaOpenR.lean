/- A fraction among a law's arguments, opened. Conditions: none. -/
import Derived.Test.YtdilbhkdkppodaaOpenB
namespace Go.Proofs.Ytdilbhkdkppodaa
open Go.ChangeShapes Go.WideShapes Go.ChangeAt Go.RowKit Go.Joins Go.Deep
set_option linter.unusedVariables false

section
variable {H : Type} {enc : TypeId × Value → H} {P : Program} {w : World}
theorem isRat_of {t e : TypeId} {F0 F1 f0 f1 : Field} {k : IntKind} {r : Reach} {b0 : Nat} {v : Value} {d : DataW H} {p : List MemPlace} (hs : P.underlying t = some (.struct #[F0, F1])) (hs2 : P.underlying F0.type = some (.struct #[f0, f1])) (ho0 : F0.offset = 0) (ho1 : F1.offset = 2) (hc0 : P.cellsOf F0.type = 2) (hc1 : P.cellsOf F1.type = 1) (hone : oneCellFields P #[f0, f1] = true) (hC : P.cellsOf t = 3)
    (h0 : P.underlying f0.type = some .bool) (h1 : P.underlying f1.type = some (.slice e)) (h2 : P.underlying F1.type = some (.slice e)) (he : P.underlying e = some (.int k)) (hc : P.cellsOf e = 1)
    (hv : Value.okWide P w r b0 t v) (h : DataW.Trod enc P w 0 (fun _ => true) true t v d p) : ∃ s a len cap zs a' len' cap' zs', v = .agg #[.bool s, .slice a len cap, .slice a' len' cap'] ∧ IsInts k w a len cap zs ∧ IsInts k w a' len' cap' zs' := by
  obtain ⟨cs, rfl, hsz⟩ := okWide_struct hs hv
  obtain ⟨c0, c1, c2, rfl⟩ := array3 (hsz.trans hC)
  obtain ⟨fuel, hf⟩ := h
  obtain ⟨y0, y1, n, hx, _, g0, g1⟩ := trod_struct2 hs hf
  have g0' : DataW.trod enc P w 0 (fun _ => true) true n F0.type [c0, c1] = some y0 := by simpa [Value.cells, ho0, hc0] using g0
  have g1' : DataW.trod enc P w 0 (fun _ => true) true n F1.type [c2] = some y1 := by simpa [Value.cells, ho1, hc1] using g1
  obtain ⟨z0, z1, m, hx2, _, q0, q1⟩ := trod_struct2 hs2 g0'
  obtain ⟨o0, k0⟩ := hone_of hone 0 f0 rfl
  obtain ⟨o1, k1⟩ := hone_of hone 1 f1 rfl
  have q0' : DataW.trod enc P w 0 (fun _ => true) true m f0.type [c0] = some z0 := by simpa [o0, k0] using q0
  have q1' : DataW.trod enc P w 0 (fun _ => true) true m f1.type [c1] = some z1 := by simpa [o1, k1] using q1
  obtain ⟨s, e0, _⟩ := DataW.trod_bool h0 q0'
  obtain ⟨a, l, c, e1⟩ := slice_form h1 q1'
  obtain ⟨a', l', c', e2⟩ := slice_form h2 g1'
  simp at e0 e1 e2
  subst e0 e1 e2
  obtain ⟨zs, hz⟩ := isInts_of h1 he hc (⟨m, by simpa [Value.cells] using q1'⟩ : DataW.Trod enc P w 0 (fun _ => true) true f1.type (.slice a l c) z1.1 z1.2)
  obtain ⟨zs', hz'⟩ := isInts_of h2 he hc (⟨n, by simpa [Value.cells] using g1'⟩ : DataW.Trod enc P w 0 (fun _ => true) true F1.type (.slice a' l' c') y1.1 y1.2)
  exact ⟨s, a, l, c, zs, a', l', c', zs', rfl, hz, hz'⟩
end
end Go.Proofs.Ytdilbhkdkppodaa
