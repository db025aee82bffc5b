/- Joined: XBigMul XBigSum XBigSub. Conditions: none. -/
import Derived.Test.YtbikkbamcleinaaDoorProg
import Derived.Test.YtbikkbamcleinaaDoorB4
import Derived.Test.YtbikkbamcleinaaDoorB2
import Derived.Deep.DeepCutAuto
namespace Go.Proofs.YtbikkbamcleinaaDoor
open Go.RowKit Nt
set_option linter.unusedVariables false

theorem below_al {w u : World} {o : Obj} (h : Below w.heap.size w u) : Below w.heap.size w (u.alloc o) := h.alloc h.size o
end Go.Proofs.YtbikkbamcleinaaDoor
namespace Go.Proofs.YtbikkbamcleinaaDoor
open Go.RowKit Nt
set_option linter.unusedVariables false

theorem OwnV.same {w : World} {base : Nat} {e : TypeId} {v : Value} {xs ys : List Value} (h : OwnV w base e v xs) (he : xs = ys) : OwnV w base e v ys := he ▸ h
theorem capd_ok {s : Bool} {xs : List Int} (h : okB s xs = true) : capd (val (toN xs)) = toN xs := by
  rw [capd_of (okB_val h)]
  exact dig_of_can (okI_nats (okB_ok h)).2.1
theorem OwnV.of_whole_n {w : World} {base g n : Nat} {e : TypeId} {ys : List Value} (h : Whole w base g e ys) (hl : ys.length = n) : OwnV w base e (.slice (some ⟨g, 0, none⟩) n n) ys := by subst hl; exact OwnV.of_whole h
end Go.Proofs.YtbikkbamcleinaaDoor
namespace Go.Proofs.YtbikkbamcleinaaDoor
open Go.RowKit Nt
set_option linter.unusedVariables false

theorem okB_flip {t : Bool} {ys : List Int} (h : 0 < ys.length) : okB (!t) ys = okB t ys := by simp [okB, h]
theorem zOf_flip (t : Bool) (ys : List Int) : zOf (!t) ys = -(zOf t ys) := by unfold zOf; exact signed_neg t _
theorem zOf_nil (t : Bool) {ys : List Int} (h : ys.length = 0) : zOf t ys = 0 := by
  rw [List.eq_nil_of_length_eq_zero h]
  cases t <;> simp [zOf, toN, val, signed]
end Go.Proofs.YtbikkbamcleinaaDoor
