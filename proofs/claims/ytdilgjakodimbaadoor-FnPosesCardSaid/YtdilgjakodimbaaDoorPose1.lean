/- Poses: validity, and the laws' own helpers. Conditions: none. -/
import Derived.Test.YtdilgjakodimbaaDoorProg
import Derived.Test.YtdilgjakodimbaaDoorHeld
import Derived.LoopN
namespace Go.Proofs.YtdilgjakodimbaaDoor
open Go.RowKit
set_option linter.unusedVariables false

namespace Po
/-- A coordinate. -/
def inC (x : Int) : Bool := decide (-1000000 ≤ x) && decide (x ≤ 1000000)
/-- A valid pose. -/
def ok (t x y : Int) : Bool := (decide (0 ≤ t) && decide (t ≤ 3)) && inC x && inC y
theorem ok_iff {t x y : Int} : ok t x y = true ↔ (0 ≤ t ∧ t ≤ 3) ∧ (-1000000 ≤ x ∧ x ≤ 1000000) ∧ -1000000 ≤ y ∧ y ≤ 1000000 := by simp [ok, inC, and_assoc]
theorem ok_no {t x y : Int} (h : ¬ ((0 ≤ t ∧ t ≤ 3) ∧ (-1000000 ≤ x ∧ x ≤ 1000000) ∧ -1000000 ≤ y ∧ y ≤ 1000000)) : ok t x y = false := by
  cases hk : ok t x y with
  | false => rfl
  | true => exact absurd (ok_iff.mp hk) h
theorem ok_yes {t x y : Int} (h : (0 ≤ t ∧ t ≤ 3) ∧ (-1000000 ≤ x ∧ x ≤ 1000000) ∧ -1000000 ≤ y ∧ y ≤ 1000000) : ok t x y = true := ok_iff.mpr h
end Po
open Po

set_option maxRecDepth 100000 in
theorem isCoord_any (x : Int) (w : World) : Calls Tryd.prog 73 #[.int .i64 x] w fun e w' => e = .returned (.bool (inC x)) ∧ w' = w := by
  go_enter Tryd.func73, Tryd.ntmps73
  go_wp2
  all_goals go_ret
  all_goals exact ⟨ret_bool (by simp [inC]; try omega), rfl⟩
set_option maxRecDepth 100000 in
theorem in_any (x a b : Int) (w : World) : Calls Tryd.prog 90 #[.int .i64 x, .int .i64 a, .int .i64 b] w fun e w' => e = .returned (.bool (decide (a ≤ x) && decide (x ≤ b))) ∧ w' = w := by
  go_enter Tryd.func90, Tryd.ntmps90
  go_wp2
  all_goals go_ret
  all_goals exact ⟨ret_bool (by simp; try omega), rfl⟩
set_option maxRecDepth 100000 in
theorem validP_impl (t x y : Int) (w : World) : Calls Tryd.prog 42 #[.agg #[.int .i64 t, .int .i64 x, .int .i64 y]] w fun e w' => e = .returned (.bool (ok t x y)) ∧ Below w.heap.size w w' := by
  have HB := Lib.hid ((Below.refl w.heap.size w).alloc (Nat.le_refl _) (.cells #[.int .i64 t, .int .i64 x, .int .i64 y] 24))
  go_enter Tryd.func42, Tryd.ntmps42
  go_wp2
  all_goals go_ret
  all_goals exact ⟨ret_bool (Bool.eq_iff_iff.mpr (by simp [ok, inC]; try omega)), HB.out⟩
set_option maxRecDepth 100000 in
theorem validP_spec (t x y : Int) (w : World) : Calls Tryd.prog 63 #[.agg #[.int .i64 t, .int .i64 x, .int .i64 y]] w fun e w' => e = .returned (.bool (ok t x y)) ∧ Below w.heap.size w w' := by
  have HB := Lib.hid ((Below.refl w.heap.size w).alloc (Nat.le_refl _) (.cells #[.int .i64 t, .int .i64 x, .int .i64 y] 24))
  go_enter Tryd.func63, Tryd.ntmps63
  go_wp2
  all_goals go_ret
  all_goals exact ⟨ret_bool (Bool.eq_iff_iff.mpr (by simp [ok, inC]; try omega)), HB.out⟩
set_option maxRecDepth 100000 in
theorem toPose_any (t x y : Int) (w : World) : Calls Tryd.prog 27 #[.agg #[.int .i64 t, .int .i64 x, .int .i64 y]] w fun e w' => e = .returned (.agg #[.int .i64 t, .int .i64 x, .int .i64 y]) ∧ Below w.heap.size w w' := by
  go_enter Tryd.func27, Tryd.ntmps27
  go_wp2
  refine bodyPost_ret (v := .agg #[.int .i64 t, .int .i64 x, .int .i64 y]) (by simp [results, Tryd.results27, go_sem]) rfl ⟨rfl, ?_⟩
  exact (((Below.refl _ _).alloc (Nat.le_refl _) _).alloc (by simp) _).alloc (by simp; omega) _
set_option maxRecDepth 100000 in
theorem eqPose_same (t x y : Int) (w : World) : Calls Tryd.prog 28 #[.agg #[.int .i64 t, .int .i64 x, .int .i64 y], .agg #[.int .i64 t, .int .i64 x, .int .i64 y]] w fun e w' => e = .returned (.bool true) ∧ Below w.heap.size w w' := by
  have HB := Lib.hid (((Below.refl w.heap.size w).alloc (Nat.le_refl _) (.cells #[.int .i64 t, .int .i64 x, .int .i64 y] 24)).alloc (by simp) (.cells #[.int .i64 t, .int .i64 x, .int .i64 y] 24))
  go_enter Tryd.func28, Tryd.ntmps28
  go_wp2
  go_ret
  exact ⟨rfl, HB.out⟩
end Go.Proofs.YtdilgjakodimbaaDoor
