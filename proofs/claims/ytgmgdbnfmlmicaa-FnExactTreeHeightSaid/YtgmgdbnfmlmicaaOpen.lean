/- Opening slices of strings and of integers that came in as arguments. Conditions: none. -/
import Derived.Test.YtgmgdbnfmlmicaaMem
import Derived.ProofKit
import Derived.OpenShut
import Derived.ChangeOld
import Derived.SliceStrings
namespace Go.Proofs.Ytgmgdbnfmlmicaa
open Go.RowKit Go.ChangeShapes Go.WideShapes Go.ChangeAt
set_option linter.unusedVariables false
section
variable {H : Type} {enc : TypeId × Value → H} {P : Program} {w : World}
theorem vrow_of (a : Addr) (len m : Nat) (f : Nat → Value) (hl : len ≤ m) (hc : ∀ i, i < m → w.cell? (a.add i) = some (f i)) : VRow w (some a) len ((List.range len).map f) := by
  refine ⟨by simp, fun hn => ?_⟩
  obtain ⟨b, off, spot⟩ := a
  have h0 := hc 0 (by omega)
  have hspot : spot = none := by simpa [Addr.add] using World.cell?_spot h0
  subst hspot
  refine ⟨b, off, rfl, ?_, fun k hk => ?_⟩
  · exact World.block_lt_of_cell? w _ (by simpa [Addr.add] using h0)
  · have hk' := hc k (by omega)
    have e : (⟨b, off, none⟩ : Addr).add k = ⟨b, off + k, none⟩ := by unfold Addr.add; split <;> simp_all
    rw [e] at hk'
    rw [hk']
    simp [hk]
theorem isStrs_of {t e : TypeId} {a : Option Addr} {len cap : Nat} {d : DataW H} {p : List MemPlace} (ht : P.underlying t = some (.slice e)) (he : P.underlying e = some .string) (hc : P.cellsOf e = 1)
    (h : DataW.Trod enc P w 0 (fun _ => true) true t (.slice a len cap) d p) : ∃ zs, IsStrs w a len cap zs := by
  obtain ⟨fuel, hf⟩ := h
  rcases open_strings ht he hc hf with ⟨hcs, _⟩ | ⟨x, l, c, zs, hcs, _, hl, hm, hz, _, hcell, hwz⟩
  · simp [Value.cells] at hcs
    obtain ⟨rfl, rfl, rfl⟩ := hcs
    exact ⟨[], VRow.empty _ _, Nat.le_refl _, by unfold maxLen; omega, by simp⟩
  · simp [Value.cells] at hcs
    obtain ⟨rfl, rfl, rfl⟩ := hcs
    have hz' : zs.length = cap := by simpa using hz
    refine ⟨zs.take len, ?_, hl, hm, fun s hs => hwz s (List.mem_of_mem_take hs)⟩
    have hv := vrow_of x len cap (fun i => Value.string (zs.getD i ByteArray.empty)) hl (fun i hi => hcell i (by omega))
    have e : (List.range len).map (fun i => Value.string (zs.getD i ByteArray.empty)) = (zs.take len).map .string := by
      apply List.ext_getElem
      · simp; omega
      · intro i h1 h2
        have hi : i < zs.length := by simp at h2; omega
        simp [hi]
    rwa [e] at hv
theorem isInts_of {t e : TypeId} {k : IntKind} {a : Option Addr} {len cap : Nat} {d : DataW H} {p : List MemPlace} (ht : P.underlying t = some (.slice e)) (he : P.underlying e = some (.int k)) (hc : P.cellsOf e = 1)
    (h : DataW.Trod enc P w 0 (fun _ => true) true t (.slice a len cap) d p) : ∃ zs, IsInts k w a len cap zs := by
  obtain ⟨fuel, hf⟩ := h
  rcases open_ints ht he hc hf with ⟨hcs, _⟩ | ⟨x, l, c, zs, hcs, _, hl, hm, hz, _, hcell, hwz⟩
  · simp [Value.cells] at hcs
    obtain ⟨rfl, rfl, rfl⟩ := hcs
    exact ⟨[], VRow.empty _ _, Nat.le_refl _, by unfold maxLen; omega, by simp⟩
  · simp [Value.cells] at hcs
    obtain ⟨rfl, rfl, rfl⟩ := hcs
    have hz' : zs.length = cap := by simpa using hz
    refine ⟨zs.take len, ?_, hl, hm, fun s hs => hwz s (List.mem_of_mem_take hs)⟩
    have hv := vrow_of x len cap (fun i => Value.int k (zs.getD i 0)) hl (fun i hi => hcell i (by omega))
    have e : (List.range len).map (fun i => Value.int k (zs.getD i 0)) = (zs.take len).map (.int k) := by
      apply List.ext_getElem
      · simp; omega
      · intro i h1 h2
        have hi : i < zs.length := by simp at h2; omega
        simp [hi]
    rwa [e] at hv
end
end Go.Proofs.Ytgmgdbnfmlmicaa
