/- A fraction, a link, a point among a law's arguments, opened. Conditions: none. -/
import Derived.Test.YtdilbhkdkppodaaOpenR
import Derived.Test.YtdilbhkdkppodaaHelpF
namespace Go.Proofs.Ytdilbhkdkppodaa
open Go.ChangeShapes Go.WideShapes Go.ChangeAt Go.RowKit Go.Joins Go.Deep
set_option linter.unusedVariables false

/-- The type t is that of fractions. -/
def RatT (P : Program) (t : TypeId) : Prop :=
  ∃ (e : TypeId) (F0 F1 f0 f1 : Field), P.underlying t = some (.struct #[F0, F1]) ∧ P.underlying F0.type = some (.struct #[f0, f1]) ∧ F0.offset = 0 ∧ F1.offset = 2 ∧ P.cellsOf F0.type = 2 ∧ P.cellsOf F1.type = 1 ∧ oneCellFields P #[f0, f1] = true ∧ P.cellsOf t = 3 ∧ P.underlying f0.type = some .bool ∧ P.underlying f1.type = some (.slice e) ∧ P.underlying F1.type = some (.slice e) ∧ P.underlying e = some (.int .i64) ∧ P.cellsOf e = 1
theorem ratT : RatT Try.prog 26 :=
  ⟨_, _, _, _, _, Try.underlying26, Try.underlying24, rfl, rfl, by kernel_rfl, by kernel_rfl, by kernel_rfl, by kernel_rfl, Try.underlying4, Try.underlying22, Try.underlying22, Try.underlying3, by kernel_rfl⟩
section
variable {H : Type} {enc : TypeId × Value → H} {P : Program} {w : World}
theorem rat_cells {t : TypeId} {fuel : Nat} {c0 c1 c2 : Value} {x : DataW H × List MemPlace} (hr : RatT P t) (h : DataW.trod enc P w 0 (fun _ => true) true fuel t [c0, c1, c2] = some x) : ∃ F : Fr, c0 = .bool F.s ∧ FrI w F c1 c2 := by
  obtain ⟨e, F0, F1, f0, f1, hs, hs2, ho0, ho1, hc0, hc1, hone, hC, h0, h1, h2, he, hc⟩ := hr
  obtain ⟨y0, y1, n, hx, _, g0, g1⟩ := trod_struct2 hs h
  have g0' : DataW.trod enc P w 0 (fun _ => true) true n F0.type [c0, c1] = some y0 := by simpa [Value.cells, ho0, hc0] using g0
  have g1' : DataW.trod enc P w 0 (fun _ => true) true n F1.type [c2] = some y1 := by simpa [Value.cells, ho1, hc1] using g1
  obtain ⟨z0, z1, m, hx2, _, q0, q1⟩ := trod_struct2 hs2 g0'
  obtain ⟨o0, k0⟩ := hone_of hone 0 f0 rfl
  obtain ⟨o1, k1⟩ := hone_of hone 1 f1 rfl
  have q0' : DataW.trod enc P w 0 (fun _ => true) true m f0.type [c0] = some z0 := by simpa [o0, k0] using q0
  have q1' : DataW.trod enc P w 0 (fun _ => true) true m f1.type [c1] = some z1 := by simpa [o1, k1] using q1
  obtain ⟨s, e0, _⟩ := DataW.trod_bool h0 q0'
  obtain ⟨a, l, c, e1⟩ := slice_form h1 q1'
  obtain ⟨a', l', c', e2⟩ := slice_form h2 g1'
  simp at e0 e1 e2
  subst e0 e1 e2
  obtain ⟨zs, hz⟩ := isInts_of h1 he hc (⟨m, by simpa [Value.cells] using q1'⟩ : DataW.Trod enc P w 0 (fun _ => true) true f1.type (.slice a l c) z1.1 z1.2)
  obtain ⟨zs', hz'⟩ := isInts_of h2 he hc (⟨n, by simpa [Value.cells] using g1'⟩ : DataW.Trod enc P w 0 (fun _ => true) true F1.type (.slice a' l' c') y1.1 y1.2)
  exact ⟨⟨s, zs, zs'⟩, rfl, ⟨ArgI.of hz, ArgI.of hz'⟩⟩
theorem trod_struct5 {t : TypeId} {f0 f1 f2 f3 f4 : Field} {fuel : Nat} {cs : List Value} {x : DataW H × List MemPlace} (ht : P.underlying t = some (.struct #[f0, f1, f2, f3, f4])) (h : DataW.trod enc P w 0 (fun _ => true) true fuel t cs = some x) :
    ∃ y0 y1 y2 y3 y4 n, DataW.trod enc P w 0 (fun _ => true) true n f0.type ((cs.drop f0.offset).take (P.cellsOf f0.type)) = some y0 ∧ DataW.trod enc P w 0 (fun _ => true) true n f1.type ((cs.drop f1.offset).take (P.cellsOf f1.type)) = some y1 ∧ DataW.trod enc P w 0 (fun _ => true) true n f2.type ((cs.drop f2.offset).take (P.cellsOf f2.type)) = some y2 ∧ DataW.trod enc P w 0 (fun _ => true) true n f3.type ((cs.drop f3.offset).take (P.cellsOf f3.type)) = some y3 ∧ DataW.trod enc P w 0 (fun _ => true) true n f4.type ((cs.drop f4.offset).take (P.cellsOf f4.type)) = some y4 := by
  obtain ⟨xs, n, _, rfl, hl, hlen, hf⟩ := DataW.trod_struct ht h
  match xs, hlen with
  | [y0, y1, y2, y3, y4], _ => exact ⟨y0, y1, y2, y3, y4, n, by simpa using hf 0 f0 rfl, by simpa using hf 1 f1 rfl, by simpa using hf 2 f2 rfl, by simpa using hf 3 f3 rfl, by simpa using hf 4 f4 rfl⟩
/-- The type t is that of links, tr that of fractions. -/
def LinkT (P : Program) (t tr : TypeId) : Prop :=
  RatT P tr ∧ ∃ f0 f1 f2 f3 f4 : Field, P.underlying t = some (.struct #[f0, f1, f2, f3, f4]) ∧ (f0.offset = 0 ∧ f1.offset = 1 ∧ f2.offset = 2 ∧ f3.offset = 5 ∧ f4.offset = 8) ∧ (P.cellsOf f0.type = 1 ∧ P.cellsOf f1.type = 1 ∧ P.cellsOf tr = 3) ∧ (f2.type = tr ∧ f3.type = tr ∧ f4.type = tr) ∧ P.underlying f0.type = some (.int .i64) ∧ P.underlying f1.type = some (.int .i64) ∧ P.cellsOf t = 11
theorem link_cells {t tr : TypeId} {fuel : Nat} {c0 c1 c2 c3 c4 c5 c6 c7 c8 c9 c10 : Value} {x : DataW H × List MemPlace} (hr : LinkT P t tr) (h : DataW.trod enc P w 0 (fun _ => true) true fuel t [c0, c1, c2, c3, c4, c5, c6, c7, c8, c9, c10] = some x) :
    ∃ (A B : Int) (X Y Z : Fr), c0 = .int .i64 A ∧ c1 = .int .i64 B ∧ c2 = .bool X.s ∧ c5 = .bool Y.s ∧ c8 = .bool Z.s ∧ LkI w X Y Z c3 c4 c6 c7 c9 c10 := by
  obtain ⟨hr, f0, f1, f2, f3, f4, hs, ⟨o0, o1, o2, o3, o4⟩, ⟨k0, k1, k2⟩, ⟨t2, t3, t4⟩, u0, u1, _⟩ := hr
  obtain ⟨y0, y1, y2, y3, y4, n, g0, g1, g2, g3, g4⟩ := trod_struct5 hs h
  rw [t2] at g2; rw [t3] at g3; rw [t4] at g4
  have g0' : DataW.trod enc P w 0 (fun _ => true) true n f0.type [c0] = some y0 := by simpa [o0, k0] using g0
  have g1' : DataW.trod enc P w 0 (fun _ => true) true n f1.type [c1] = some y1 := by simpa [o1, k1] using g1
  have g2' : DataW.trod enc P w 0 (fun _ => true) true n tr [c2, c3, c4] = some y2 := by simpa [o2, k2] using g2
  have g3' : DataW.trod enc P w 0 (fun _ => true) true n tr [c5, c6, c7] = some y3 := by simpa [o3, k2] using g3
  have g4' : DataW.trod enc P w 0 (fun _ => true) true n tr [c8, c9, c10] = some y4 := by simpa [o4, k2] using g4
  obtain ⟨A, e0, _⟩ := DataW.trod_int u0 g0'
  obtain ⟨B, e1, _⟩ := DataW.trod_int u1 g1'
  obtain ⟨X, ex, hX⟩ := rat_cells hr g2'
  obtain ⟨Y, ey, hY⟩ := rat_cells hr g3'
  obtain ⟨Z, ez, hZ⟩ := rat_cells hr g4'
  exact ⟨A, B, X, Y, Z, by simpa using e0, by simpa using e1, ex, ey, ez, ⟨hX, hY, hZ⟩⟩
theorem list11 {l : List Value} (h : l.length = 11) : ∃ c0 c1 c2 c3 c4 c5 c6 c7 c8 c9 c10, l = [c0, c1, c2, c3, c4, c5, c6, c7, c8, c9, c10] := by
  match l, h with
  | [c0, c1, c2, c3, c4, c5, c6, c7, c8, c9, c10], _ => exact ⟨c0, c1, c2, c3, c4, c5, c6, c7, c8, c9, c10, rfl⟩
theorem isLink_of {t tr : TypeId} {r : Reach} {b0 : Nat} {v : Value} {d : DataW H} {p : List MemPlace} (hr : LinkT P t tr) (hv : Value.okWide P w r b0 t v) (h : DataW.Trod enc P w 0 (fun _ => true) true t v d p) :
    ∃ (A B : Int) (X Y Z : Fr) (p0 p1 q0 q1 r0 r1 : Value), v = .agg #[.int .i64 A, .int .i64 B, .bool X.s, p0, p1, .bool Y.s, q0, q1, .bool Z.s, r0, r1] ∧ LkI w X Y Z p0 p1 q0 q1 r0 r1 := by
  have hr' := hr
  obtain ⟨_, f0, f1, f2, f3, f4, hs, _, _, _, _, _, hC⟩ := hr'
  obtain ⟨cs, rfl, hsz⟩ := okWide_struct hs hv
  obtain ⟨l⟩ := cs
  obtain ⟨c0, c1, c2, c3, c4, c5, c6, c7, c8, c9, c10, rfl⟩ := list11 (l := l) (by simpa using hsz.trans hC)
  obtain ⟨fuel, hf⟩ := h
  obtain ⟨A, B, X, Y, Z, rfl, rfl, rfl, rfl, rfl, hL⟩ := link_cells hr (by simpa [Value.cells] using hf)
  exact ⟨A, B, X, Y, Z, _, _, _, _, _, _, rfl, hL⟩
/-- The type t is that of points. -/
def PointT (P : Program) (t tr : TypeId) : Prop :=
  RatT P tr ∧ ∃ f0 f1 : Field, P.underlying t = some (.struct #[f0, f1]) ∧ (f0.offset = 0 ∧ f1.offset = 3) ∧ P.cellsOf tr = 3 ∧ (f0.type = tr ∧ f1.type = tr) ∧ P.cellsOf t = 6
theorem isPoint_of {t tr : TypeId} {r : Reach} {b0 : Nat} {v : Value} {d : DataW H} {p : List MemPlace} (hr : PointT P t tr) (hv : Value.okWide P w r b0 t v) (h : DataW.Trod enc P w 0 (fun _ => true) true t v d p) :
    ∃ (X Y : Fr) (p0 p1 q0 q1 : Value), v = .agg #[.bool X.s, p0, p1, .bool Y.s, q0, q1] ∧ FrI w X p0 p1 ∧ FrI w Y q0 q1 := by
  obtain ⟨hr, f0, f1, hs, ⟨o0, o1⟩, k, ⟨t0, t1⟩, hC⟩ := hr
  obtain ⟨cs, rfl, hsz⟩ := okWide_struct hs hv
  obtain ⟨l⟩ := cs
  obtain ⟨c0, c1, c2, c3, c4, c5, rfl⟩ : ∃ c0 c1 c2 c3 c4 c5, l = [c0, c1, c2, c3, c4, c5] := by
    have hl : l.length = 6 := by simpa using hsz.trans hC
    match l, hl with
    | [c0, c1, c2, c3, c4, c5], _ => exact ⟨c0, c1, c2, c3, c4, c5, rfl⟩
  obtain ⟨fuel, hf⟩ := h
  obtain ⟨y0, y1, n, hx, _, g0, g1⟩ := trod_struct2 hs hf
  rw [t0] at g0; rw [t1] at g1
  have g0' : DataW.trod enc P w 0 (fun _ => true) true n tr [c0, c1, c2] = some y0 := by simpa [Value.cells, o0, k] using g0
  have g1' : DataW.trod enc P w 0 (fun _ => true) true n tr [c3, c4, c5] = some y1 := by simpa [Value.cells, o1, k] using g1
  obtain ⟨X, rfl, hX⟩ := rat_cells hr g0'
  obtain ⟨Y, rfl, hY⟩ := rat_cells hr g1'
  exact ⟨X, Y, _, _, _, _, rfl, hX, hY⟩
end
theorem linkT : LinkT Try.prog 28 26 :=
  ⟨ratT, _, _, _, _, _, Try.underlying28, ⟨rfl, rfl, rfl, rfl, rfl⟩, ⟨by kernel_rfl, by kernel_rfl, by kernel_rfl⟩, ⟨rfl, rfl, rfl⟩, Try.underlying3, Try.underlying3, by kernel_rfl⟩
end Go.Proofs.Ytdilbhkdkppodaa
