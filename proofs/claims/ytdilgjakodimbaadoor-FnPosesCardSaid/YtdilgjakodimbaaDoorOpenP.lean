/- A pose, or a slice of poses, among a law's arguments, opened; the listed variable quarterTurns read. Conditions: none. -/
import Derived.Test.YtdilgjakodimbaaDoorRows
import Derived.Test.YtdilgjakodimbaaDoorPose2
import Derived.Lib.SmallJoins
import Derived.Lib.LaidTab
import Derived.OpenShut
import Derived.LaidMore
import Derived.Stop.Joined
import Derived.Deep.Slices
namespace Go.Proofs.YtdilgjakodimbaaDoor
open Go.ChangeShapes Go.WideShapes Go.ChangeAt Go.RowKit Go.Joins Go.Deep
set_option linter.unusedVariables false

section
variable {H : Type} {enc : TypeId × Value → H} {P : Program} {w : World}
theorem isPose_of {t : TypeId} {f0 f1 f2 : Field} {k : IntKind} {r : Reach} {b0 : Nat} {v : Value} {d : DataW H} {p : List MemPlace} (hs : P.underlying t = some (.struct #[f0, f1, f2])) (hone : oneCellFields P #[f0, f1, f2] = true) (hC : P.cellsOf t = 3)
    (h0 : P.underlying f0.type = some (.int k)) (h1 : P.underlying f1.type = some (.int k)) (h2 : P.underlying f2.type = some (.int k))
    (hv : Value.okWide P w r b0 t v) (h : DataW.Trod enc P w 0 (fun _ => true) true t v d p) : ∃ x y z, v = .agg #[.int k x, .int k y, .int k z] ∧ (Lit.int k x).wf = true ∧ (Lit.int k y).wf = true ∧ (Lit.int k z).wf = true := by
  obtain ⟨c0, c1, c2, y0, y1, y2, m, rfl, rfl, rfl, hy0, hy1, hy2⟩ := open_agg3 hs hone hC hv h
  obtain ⟨x, e0, _, wx⟩ := DataW.trod_int h0 hy0
  obtain ⟨y, e1, _, wy⟩ := DataW.trod_int h1 hy1
  obtain ⟨z, e2, _, wz⟩ := DataW.trod_int h2 hy2
  simp at e0 e1 e2
  subst e0 e1 e2
  exact ⟨x, y, z, rfl, wx, wy, wz⟩
theorem arr_at {t e : TypeId} {n fuel base i : Nat} {sp : Nat → Bool} {held : Bool} {cs : List Value} {ds : List (DataW H)} {d : DataW H} {p : List MemPlace} (ht : P.underlying t = some (.array n e)) (h : DataW.trod enc P w base sp held fuel t cs = some (.agg ds, p)) (hi : i < n) (hd : ds[i]? = some d) :
    ∃ m q, DataW.trod enc P w base sp held m e ((cs.drop (i * P.cellsOf e)).take (P.cellsOf e)) = some (d, q) := by
  obtain ⟨xs, m, rfl, hx, hl, hxl, hall⟩ := DataW.trod_array ht h
  have hds : ds = xs.map (·.1) := by simpa using congrArg Prod.fst hx
  subst hds
  rw [List.getElem?_map] at hd
  obtain ⟨y, hy, rfl⟩ := Option.map_eq_some_iff.mp hd
  exact ⟨m, y.2, by rw [hall i hi, hy]⟩
end
theorem gQ : Tryd.prog.globalNamed "loop.example/g00810/impl.quarterTurns" = some 0 := by kernel_rfl
theorem tQ : (Tryd.prog.globals[0]?).map (·.type) = some 77 := by kernel_rfl
theorem cellsM : Tryd.prog.cellsOf 76 = 4 := by kernel_rfl
theorem cellsV : Tryd.prog.cellsOf 74 = 2 := by kernel_rfl
theorem quad {W : World} {fuel : Nat} {cs : List Value} {p : List MemPlace} (h : DataW.trod (fun _ => ()) Tryd.prog W 0 (fun _ => true) false fuel 77 cs = some (Rows.laid_loop_example_g00810_impl_quarterTurns, p)) {i j : Nat} (hi : i < 4) (hj : j < 2) {ms : List (DataW Unit)} {zs : List Int}
    (h1 : (match (Rows.laid_loop_example_g00810_impl_quarterTurns : DataW Unit) with | .agg l => l[i]? | _ => none) = some (.agg ms)) (h2 : ms[j]? = some (Lib.tabData .i64 zs)) :
    ((((cs.drop (i * 4)).take 4).drop (j * 2)).take 2) = zs.map fun z => Value.int .i64 z := by
  obtain ⟨m, q, e1⟩ := arr_at Tryd.underlying77 h hi h1
  rw [cellsM] at e1
  obtain ⟨m', q', e2⟩ := arr_at Tryd.underlying76 e1 hj h2
  rw [cellsV] at e2
  exact Lib.cells_of_tab Tryd.underlying74 Tryd.underlying3 (by kernel_rfl) (by kernel_rfl) e2
theorem at_of {cs : List Value} {i j l : Nat} {zs : List Value} (h : ((((cs.drop (i * 4)).take 4).drop (j * 2)).take 2) = zs) (hj : j < 2) (hl : l < 2) : cs[i * 4 + (j * 2 + l)]? = zs[l]? := by
  rw [← h, List.getElem?_take, if_pos hl, List.getElem?_drop, List.getElem?_take, if_pos (by omega), List.getElem?_drop]
theorem laidQ_of {W : World} (h : laidMet Tryd.prog [("loop.example/g00810/impl.quarterTurns", Rows.laid_loop_example_g00810_impl_quarterTurns)] W) : LaidQ W := by
  obtain ⟨ps, ⟨g, t, cs, fuel, p, q, h1, h2, h3, h4, _, _⟩, _, _⟩ := h
  obtain rfl := Option.some.inj (gQ.symm.trans h1)
  obtain rfl := Option.some.inj (tQ.symm.trans h2)
  have hlt : 0 < W.heap.size := by
    rcases Nat.lt_or_ge 0 W.heap.size with hl | hg
    · exact hl
    · unfold World.var? at h3
      rw [h1] at h3
      simp [Array.getElem?_eq_none hg] at h3
  have c : ∀ k, W.cell? ⟨0, k, none⟩ = cs.toList[k]? := fun k => (World.var?_cell h1 h3 k).trans (by simp)
  refine ⟨hlt, (c 0).trans ?_, (c 1).trans ?_, (c 2).trans ?_, (c 3).trans ?_, (c 4).trans ?_, (c 5).trans ?_, (c 6).trans ?_, (c 7).trans ?_, (c 8).trans ?_, (c 9).trans ?_, (c 10).trans ?_, (c 11).trans ?_, (c 12).trans ?_, (c 13).trans ?_, (c 14).trans ?_, (c 15).trans ?_⟩
  · exact at_of (i := 0) (j := 0) (l := 0) (quad (i := 0) (j := 0) (ms := [Lib.tabData .i64 [1, 0], Lib.tabData .i64 [0, 1]]) (zs := [1, 0]) h4 (by omega) (by omega) rfl rfl) (by omega) (by omega)
  · exact at_of (i := 0) (j := 0) (l := 1) (quad (i := 0) (j := 0) (ms := [Lib.tabData .i64 [1, 0], Lib.tabData .i64 [0, 1]]) (zs := [1, 0]) h4 (by omega) (by omega) rfl rfl) (by omega) (by omega)
  · exact at_of (i := 0) (j := 1) (l := 0) (quad (i := 0) (j := 1) (ms := [Lib.tabData .i64 [1, 0], Lib.tabData .i64 [0, 1]]) (zs := [0, 1]) h4 (by omega) (by omega) rfl rfl) (by omega) (by omega)
  · exact at_of (i := 0) (j := 1) (l := 1) (quad (i := 0) (j := 1) (ms := [Lib.tabData .i64 [1, 0], Lib.tabData .i64 [0, 1]]) (zs := [0, 1]) h4 (by omega) (by omega) rfl rfl) (by omega) (by omega)
  · exact at_of (i := 1) (j := 0) (l := 0) (quad (i := 1) (j := 0) (ms := [Lib.tabData .i64 [0, 1], Lib.tabData .i64 [-1, 0]]) (zs := [0, 1]) h4 (by omega) (by omega) rfl rfl) (by omega) (by omega)
  · exact at_of (i := 1) (j := 0) (l := 1) (quad (i := 1) (j := 0) (ms := [Lib.tabData .i64 [0, 1], Lib.tabData .i64 [-1, 0]]) (zs := [0, 1]) h4 (by omega) (by omega) rfl rfl) (by omega) (by omega)
  · exact at_of (i := 1) (j := 1) (l := 0) (quad (i := 1) (j := 1) (ms := [Lib.tabData .i64 [0, 1], Lib.tabData .i64 [-1, 0]]) (zs := [-1, 0]) h4 (by omega) (by omega) rfl rfl) (by omega) (by omega)
  · exact at_of (i := 1) (j := 1) (l := 1) (quad (i := 1) (j := 1) (ms := [Lib.tabData .i64 [0, 1], Lib.tabData .i64 [-1, 0]]) (zs := [-1, 0]) h4 (by omega) (by omega) rfl rfl) (by omega) (by omega)
  · exact at_of (i := 2) (j := 0) (l := 0) (quad (i := 2) (j := 0) (ms := [Lib.tabData .i64 [-1, 0], Lib.tabData .i64 [0, -1]]) (zs := [-1, 0]) h4 (by omega) (by omega) rfl rfl) (by omega) (by omega)
  · exact at_of (i := 2) (j := 0) (l := 1) (quad (i := 2) (j := 0) (ms := [Lib.tabData .i64 [-1, 0], Lib.tabData .i64 [0, -1]]) (zs := [-1, 0]) h4 (by omega) (by omega) rfl rfl) (by omega) (by omega)
  · exact at_of (i := 2) (j := 1) (l := 0) (quad (i := 2) (j := 1) (ms := [Lib.tabData .i64 [-1, 0], Lib.tabData .i64 [0, -1]]) (zs := [0, -1]) h4 (by omega) (by omega) rfl rfl) (by omega) (by omega)
  · exact at_of (i := 2) (j := 1) (l := 1) (quad (i := 2) (j := 1) (ms := [Lib.tabData .i64 [-1, 0], Lib.tabData .i64 [0, -1]]) (zs := [0, -1]) h4 (by omega) (by omega) rfl rfl) (by omega) (by omega)
  · exact at_of (i := 3) (j := 0) (l := 0) (quad (i := 3) (j := 0) (ms := [Lib.tabData .i64 [0, -1], Lib.tabData .i64 [1, 0]]) (zs := [0, -1]) h4 (by omega) (by omega) rfl rfl) (by omega) (by omega)
  · exact at_of (i := 3) (j := 0) (l := 1) (quad (i := 3) (j := 0) (ms := [Lib.tabData .i64 [0, -1], Lib.tabData .i64 [1, 0]]) (zs := [0, -1]) h4 (by omega) (by omega) rfl rfl) (by omega) (by omega)
  · exact at_of (i := 3) (j := 1) (l := 0) (quad (i := 3) (j := 1) (ms := [Lib.tabData .i64 [0, -1], Lib.tabData .i64 [1, 0]]) (zs := [1, 0]) h4 (by omega) (by omega) rfl rfl) (by omega) (by omega)
  · exact at_of (i := 3) (j := 1) (l := 1) (quad (i := 3) (j := 1) (ms := [Lib.tabData .i64 [0, -1], Lib.tabData .i64 [1, 0]]) (zs := [1, 0]) h4 (by omega) (by omega) rfl rfl) (by omega) (by omega)
theorem laidQ_only {W : World} (h : laidMetH Tryd.prog [("loop.example/g00810/impl.quarterTurns", Rows.laid_loop_example_g00810_impl_quarterTurns)] W) : LaidQ W := by
  rw [MakeChecks.laidMetH_plain _ _ _ (by kernel_rfl)] at h
  exact laidQ_of h
end Go.Proofs.YtdilgjakodimbaaDoor
