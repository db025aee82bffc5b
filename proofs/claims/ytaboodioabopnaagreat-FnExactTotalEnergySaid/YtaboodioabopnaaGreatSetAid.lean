/- Link sets: what is like answers alike. Conditions: none. -/
import Derived.Test.YtaboodioabopnaaGreatIsSet
namespace Go.Proofs.YtaboodioabopnaaGreat
open Go.RowKit Nt Fr
set_option linter.unusedVariables false

/-- Two stores one behind the other. -/
theorem St.comp {w0 w w' : World} {bs bs2 : List (Nat × List Value)} {cs cs2 : List Chunk} (h : St w0 w bs cs) (h2 : St w w' bs2 cs2) : St w0 w' (bs2 ++ bs) (cs2 ++ cs) := by
  have h' := h.call h2.below
  refine ⟨h'.below, fun p hp => ?_, fun l hl => ?_, List.pairwise_append.mpr ⟨h2.bb, h'.bb, fun p hp q hq => ?_⟩, List.pairwise_append.mpr ⟨h2.cc, h'.cc, fun l hl m hm => ?_⟩, fun p hp l hl q hq => ?_⟩
  · rcases List.mem_append.mp hp with a | a
    · exact ⟨(h2.box p a).1, Nat.le_trans h.size (h2.box p a).2⟩
    · exact h'.box p a
  · rcases List.mem_append.mp hl with a | a
    · exact (h2.row l a).based h.size
    · exact h'.row l a
  · have a := (h2.box p hp).2
    have b := (h.box q hq).1.lt
    omega
  · exact (h.row m hm).newer (h2.row l hl) (Nat.le_refl _)
  · rcases List.mem_append.mp hp with a | a
    · rcases List.mem_append.mp hl with c | c
      · exact h2.br p a l c q hq
      · intro k e1 e2
        have x := (h2.box p a).2
        have y := (((h.row l c).1 q hq).lt k e2).2
        obtain rfl : p.1 = k := by simpa using e1
        omega
    · rcases List.mem_append.mp hl with c | c
      · intro k e1 e2
        have x := (h.box p a).1.lt
        have y := (((h2.row l c).1 q hq).lt k e2).1
        obtain rfl : p.1 = k := by simpa using e1
        omega
      · exact h'.br p a l c q hq
theorem like_ok {y z : Lr} (h : y.like z) : y.ok = z.ok := by obtain ⟨h1, h2, h3, h4, h5⟩ := h; unfold Lr.ok; rw [h1, h2, h3, h4, h5]
theorem like_less {y z y2 z2 : Lr} (h : y.like z) (h' : y2.like z2) : y.less y2 = z.less z2 := by obtain ⟨h1, h2, _⟩ := h; obtain ⟨h3, h4, _⟩ := h'; unfold Lr.less; rw [h1, h2, h3, h4]
theorem okSet_like {ys zs : List Lr} {n : Nat} (hy : ys.length = n) (hz : zs.length = n) (h : ∀ (i : Nat) (y z : Lr), ys[i]? = some y → zs[i]? = some z → y.like z) : okSet ys = okSet zs := by
  have G : ∀ i, i < n → ∃ y z, ys[i]? = some y ∧ zs[i]? = some z ∧ y.like z := fun i hi => ⟨ys[i]'(by omega), zs[i]'(by omega), List.getElem?_eq_getElem _, List.getElem?_eq_getElem _, h i _ _ (List.getElem?_eq_getElem _) (List.getElem?_eq_getElem _)⟩
  rw [Bool.eq_iff_iff, okSet_iff, okSet_iff, hy, hz]
  constructor
  · rintro ⟨h1, h2⟩
    refine ⟨fun i z hi hz' => ?_, fun i a b hi ha hb => ?_⟩
    · obtain ⟨y, z', e1, e2, e3⟩ := G i hi
      obtain rfl := Option.some.inj (e2.symm.trans hz')
      rw [← like_ok e3]; exact h1 i y hi e1
    · obtain ⟨y, z', e1, e2, e3⟩ := G i (by omega)
      obtain ⟨y2, z2, f1, f2, f3⟩ := G (i + 1) hi
      obtain rfl := Option.some.inj (e2.symm.trans ha)
      obtain rfl := Option.some.inj (f2.symm.trans hb)
      rw [← like_less e3 f3]; exact h2 i y y2 hi e1 f1
  · rintro ⟨h1, h2⟩
    refine ⟨fun i z hi hz' => ?_, fun i a b hi ha hb => ?_⟩
    · obtain ⟨y, z', e1, e2, e3⟩ := G i hi
      obtain rfl := Option.some.inj (e1.symm.trans hz')
      rw [like_ok e3]; exact h1 i z' hi e2
    · obtain ⟨y, z', e1, e2, e3⟩ := G i (by omega)
      obtain ⟨y2, z2, f1, f2, f3⟩ := G (i + 1) hi
      obtain rfl := Option.some.inj (e1.symm.trans ha)
      obtain rfl := Option.some.inj (f1.symm.trans hb)
      rw [like_less e3 f3]; exact h2 i z' z2 hi e2 f2
theorem like_both {xs ys zs : List Lr} {n : Nat} (hx : xs.length = n) (hy : ys.length = n) (hz : zs.length = n) (h1 : ∀ (i : Nat) (y z : Lr), xs[i]? = some y → zs[i]? = some z → y.like z) (h2 : ∀ (i : Nat) (y z : Lr), ys[i]? = some y → zs[i]? = some z → y.like z) : ∀ (i : Nat) (x y : Lr), xs[i]? = some x → ys[i]? = some y → x.like y := by
  intro i x y ex ey
  have hi : i < n := by have := (List.getElem?_eq_some_iff.mp ex).1; omega
  have ez : zs[i]? = some (zs[i]'(by omega)) := List.getElem?_eq_getElem _
  obtain ⟨a1, a2, a3, a4, a5⟩ := h1 i x _ ex ez
  obtain ⟨b1, b2, b3, b4, b5⟩ := h2 i y _ ey ez
  exact ⟨a1.trans b1.symm, a2.trans b2.symm, a3.trans b3.symm, a4.trans b4.symm, a5.trans b5.symm⟩
end Go.Proofs.YtaboodioabopnaaGreat
