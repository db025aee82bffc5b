/- A slice of poses among a law's arguments, opened. Conditions: none. -/
import Derived.Test.YtdilgjakodimbaaDoorOpenP
import Derived.Test.YtdilgjakodimbaaDoorPoses
namespace Go.Proofs.YtdilgjakodimbaaDoor
open Go.ChangeShapes Go.WideShapes Go.ChangeAt Go.RowKit Go.Joins Go.Deep
set_option linter.unusedVariables false

theorem add_plain (b off i : Nat) : (⟨b, off, none⟩ : Addr).add i = ⟨b, off + i, none⟩ := by unfold Addr.add; split <;> simp_all
section
variable {H : Type} {enc : TypeId × Value → H} {P : Program} {w : World}
theorem pose_cells {e : TypeId} {f0 f1 f2 : Field} {k : IntKind} {fuel : Nat} {c0 c1 c2 : Value} {x : DataW H × List MemPlace} (hs : P.underlying e = some (.struct #[f0, f1, f2])) (hone : oneCellFields P #[f0, f1, f2] = true)
    (h0 : P.underlying f0.type = some (.int k)) (h1 : P.underlying f1.type = some (.int k)) (h2 : P.underlying f2.type = some (.int k)) (h : DataW.trod enc P w 0 (fun _ => true) true fuel e [c0, c1, c2] = some x) :
    ∃ a b c, c0 = .int k a ∧ c1 = .int k b ∧ c2 = .int k c := by
  obtain ⟨y0, y1, y2, n, hx, _, g0, g1, g2⟩ := trod_struct3 hs h
  obtain ⟨o0, k0⟩ := hone_of hone 0 f0 rfl
  obtain ⟨o1, k1⟩ := hone_of hone 1 f1 rfl
  obtain ⟨o2, k2⟩ := hone_of hone 2 f2 rfl
  have g0' : DataW.trod enc P w 0 (fun _ => true) true n f0.type [c0] = some y0 := by simpa [o0, k0] using g0
  have g1' : DataW.trod enc P w 0 (fun _ => true) true n f1.type [c1] = some y1 := by simpa [o1, k1] using g1
  have g2' : DataW.trod enc P w 0 (fun _ => true) true n f2.type [c2] = some y2 := by simpa [o2, k2] using g2
  obtain ⟨a, e0, _⟩ := DataW.trod_int h0 g0'
  obtain ⟨b, e1, _⟩ := DataW.trod_int h1 g1'
  obtain ⟨c, e2, _⟩ := DataW.trod_int h2 g2'
  exact ⟨a, b, c, by simpa using e0, by simpa using e1, by simpa using e2⟩
theorem isPoses_of {t e : TypeId} {f0 f1 f2 : Field} {a : Option Addr} {len cap : Nat} {d : DataW H} {p : List MemPlace} (ht : P.underlying t = some (.slice e)) (hs : P.underlying e = some (.struct #[f0, f1, f2])) (hone : oneCellFields P #[f0, f1, f2] = true) (hC : P.cellsOf e = 3)
    (h0 : P.underlying f0.type = some (.int .i64)) (h1 : P.underlying f1.type = some (.int .i64)) (h2 : P.underlying f2.type = some (.int .i64))
    (h : DataW.Trod enc P w 0 (fun _ => true) true t (.slice a len cap) d p) : ∃ zs, IsPoses w a len cap zs := by
  obtain ⟨fuel, hf⟩ := h
  rcases open_slice ht hf with ⟨hcs, _⟩ | ⟨x, l, c, m, n, D, Pl, hcs, _, hl, hm, hme, _, hall⟩
  · simp [Value.cells] at hcs
    obtain ⟨rfl, rfl, rfl⟩ := hcs
    exact ⟨[], ⟨rfl, fun h => absurd h (Nat.lt_irrefl 0)⟩, Nat.le_refl _, by unfold maxLen; omega⟩
  · simp [Value.cells] at hcs
    obtain ⟨rfl, rfl, rfl⟩ := hcs
    have hmc : m = cap := by simpa using hme
    subst hmc
    have key : ∀ i, i < len → ∃ q : Int × Int × Int, w.cell? (x.add (i * 3)) = some (.int .i64 q.1) ∧ w.cell? (x.add (i * 3 + 1)) = some (.int .i64 q.2.1) ∧ w.cell? (x.add (i * 3 + 2)) = some (.int .i64 q.2.2) := by
      intro i hi
      obtain ⟨cs', hc, ht'⟩ := hall i (by omega)
      rw [hC] at hc
      obtain ⟨_, hlen, hcell⟩ := World.cells?_some hc
      obtain ⟨c0, c1, c2, rfl⟩ : ∃ c0 c1 c2, cs' = [c0, c1, c2] := by
        match cs', hlen with
        | [c0, c1, c2], _ => exact ⟨c0, c1, c2, rfl⟩
      obtain ⟨q0, q1, q2, rfl, rfl, rfl⟩ := pose_cells hs hone h0 h1 h2 ht'
      have b0 := hcell 0 (by omega)
      have b1 := hcell 1 (by omega)
      have b2 := hcell 2 (by omega)
      have hadd : ∀ (y : Addr) (i j : Nat), (y.add i).add j = y.add (i + j) := by
        intro y i j
        unfold Addr.add
        by_cases hi : i = 0 <;> by_cases hj : j = 0 <;> simp [hi, hj, Nat.add_assoc]
      rw [hadd] at b0 b1 b2
      exact ⟨(q0, q1, q2), by simpa using b0, by simpa using b1, by simpa using b2⟩
    have hF : ∃ F : Nat → Int × Int × Int, ∀ i, i < len → w.cell? (x.add (i * 3)) = some (.int .i64 (F i).1) ∧ w.cell? (x.add (i * 3 + 1)) = some (.int .i64 (F i).2.1) ∧ w.cell? (x.add (i * 3 + 2)) = some (.int .i64 (F i).2.2) := by
      refine ⟨fun i => if hi : i < len then Classical.choose (key i hi) else (0, 0, 0), fun i hi => ?_⟩
      simp only [dif_pos hi]
      exact Classical.choose_spec (key i hi)
    obtain ⟨F, hF⟩ := hF
    refine ⟨(List.range len).map F, ⟨by simp, fun hn => ?_⟩, hl, hm⟩
    obtain ⟨b, off, spot⟩ := x
    have z0 := (hF 0 hn).1
    rw [Nat.zero_mul] at z0
    have hspot : spot = none := by simpa [Addr.add] using World.cell?_spot z0
    subst hspot
    have hadd : ∀ i, (⟨b, off, none⟩ : Addr).add i = ⟨b, off + i, none⟩ := fun i => add_plain b off i
    refine ⟨b, off, rfl, World.block_lt_of_cell? w _ z0, fun k hk => ?_⟩
    obtain ⟨y0, y1, y2⟩ := hF k hk
    rw [hadd] at y0 y1 y2
    have e : ((List.range len).map F).getD k (0, 0, 0) = F k := by simp [List.getD, hk]
    rw [e]
    exact ⟨y0, y1, y2⟩
end
end Go.Proofs.YtdilgjakodimbaaDoor
