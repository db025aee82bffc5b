/- A slice of links among a law's arguments, opened. Conditions: none. -/
import Derived.Test.YtbikkbamcleinaaDoorLinks
import Derived.Deep.Slices
namespace Go.Proofs.YtbikkbamcleinaaDoor
open Go.ChangeShapes Go.WideShapes Go.ChangeAt Go.RowKit Go.Joins Go.Deep
set_option linter.unusedVariables false

theorem add_plainK (b off i : Nat) : (⟨b, off, none⟩ : Addr).add i = ⟨b, off + i, none⟩ := by unfold Addr.add; split <;> simp_all
section
variable {H : Type} {enc : TypeId × Value → H} {P : Program} {w : World}
theorem isLinks_of {t e tr : TypeId} {a : Option Addr} {len cap : Nat} {d : DataW H} {p : List MemPlace} (hr : LinkT P e tr) (ht : P.underlying t = some (.slice e))
    (h : DataW.Trod enc P w 0 (fun _ => true) true t (.slice a len cap) d p) : ∃ zs, IsLinks w a len cap zs := by
  have hC : P.cellsOf e = 11 := by obtain ⟨_, _, _, _, _, _, _, _, _, _, _, _, hC⟩ := hr; exact hC
  obtain ⟨fuel, hf⟩ := h
  rcases open_slice ht hf with ⟨hcs, _⟩ | ⟨x, l, c, m, n, D, Pl, hcs, _, hl, hm, hme, _, hall⟩
  · simp [Value.cells] at hcs
    obtain ⟨rfl, rfl, rfl⟩ := hcs
    exact ⟨[], ⟨rfl, fun h => absurd h (Nat.lt_irrefl 0), by simp⟩, Nat.le_refl _, by unfold maxLen; omega⟩
  · simp [Value.cells] at hcs
    obtain ⟨rfl, rfl, rfl⟩ := hcs
    have hmc : m = cap := by simpa using hme
    subst hmc
    have key : ∀ i, i < len → ∃ z : Lr, z.rd w ∧ ∀ (j : Nat) (v : Value), z.cells[j]? = some v → w.cell? (x.add (i * 11 + j)) = some v := by
      intro i hi
      obtain ⟨cs', hc, ht'⟩ := hall i (by omega)
      rw [hC] at hc
      obtain ⟨_, hlen, hcell⟩ := World.cells?_some hc
      obtain ⟨c0, c1, c2, c3, c4, c5, c6, c7, c8, c9, c10, rfl⟩ := list11 hlen
      obtain ⟨A, B, X, Y, Z, rfl, rfl, rfl, rfl, rfl, hL⟩ := link_cells hr ht'
      have hadd : ∀ (y : Addr) (i j : Nat), (y.add i).add j = y.add (i + j) := by
        intro y i j
        unfold Addr.add
        by_cases hi : i = 0 <;> by_cases hj : j = 0 <;> simp [hi, hj, Nat.add_assoc]
      refine ⟨⟨A, B, X, Y, Z, c3, c4, c6, c7, c9, c10⟩, hL, fun j v hj => ?_⟩
      have hj' : j < 11 := by have := (List.getElem?_eq_some_iff.mp hj).1; simpa [Lr.cells] using this
      have b := hcell j (by omega)
      rw [hadd] at b
      rw [b]
      simpa [Lr.cells] using hj
    have hF : ∃ F : Nat → Lr, ∀ i, i < len → (F i).rd w ∧ ∀ (j : Nat) (v : Value), (F i).cells[j]? = some v → w.cell? (x.add (i * 11 + j)) = some v := by
      refine ⟨fun i => if hi : i < len then Classical.choose (key i hi) else ⟨0, 0, Fr.zero, Fr.zero, Fr.zero, .nilIface, .nilIface, .nilIface, .nilIface, .nilIface, .nilIface⟩, fun i hi => ?_⟩
      simp only [dif_pos hi]
      exact Classical.choose_spec (key i hi)
    obtain ⟨F, hF⟩ := hF
    refine ⟨(List.range len).map F, ⟨by simp, fun hn => ?_, fun z hz => ?_⟩, hl, hm⟩
    · obtain ⟨b, off, spot⟩ := x
      have z0 := (hF 0 hn).2 0 _ rfl
      rw [Nat.zero_mul, Nat.zero_add] at z0
      have hspot : spot = none := by simpa [Addr.add] using World.cell?_spot z0
      subst hspot
      refine ⟨b, off, rfl, World.block_lt_of_cell? w _ z0, fun k hk j v hj => ?_⟩
      have hk' : k < len := by simpa using hk
      have e : ((List.range len).map F)[k] = F k := by simp
      rw [e] at hj
      have := (hF k hk').2 j v hj
      rw [add_plainK] at this
      rw [Nat.add_assoc]; exact this
    · obtain ⟨i, hi, rfl⟩ := List.mem_map.mp hz
      exact (hF i (List.mem_range.mp hi)).1
end
end Go.Proofs.YtbikkbamcleinaaDoor
