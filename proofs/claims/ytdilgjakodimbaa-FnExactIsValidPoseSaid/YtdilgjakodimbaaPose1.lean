/- Poses: validity, and the laws' own helpers. Conditions: none. -/
import Derived.Test.YtdilgjakodimbaaProg
import Derived.Test.YtdilgjakodimbaaHeld
import Derived.LoopN
namespace Go.Proofs.Ytdilgjakodimbaa
open Go.RowKit
set_option linter.unusedVariables false

namespace Po
/-- A coordinate. -/
def inC (x : Int) : Bool := decide (-1000000 ≤ x) && decide (x ≤ 1000000)
/-- A valid pose. -/
def ok (t x y : Int) : Bool := (decide (0 ≤ t) && decide (t ≤ 3)) && inC x && inC y
theorem ok_iff {t x y : Int} : ok t x y = true ↔ (0 ≤ t ∧ t ≤ 3) ∧ (-1000000 ≤ x ∧ x ≤ 1000000) ∧ -1000000 ≤ y ∧ y ≤ 1000000 := by simp [ok, inC, and_assoc]
theorem ok_no {t x y : Int} (h : ¬ ((0 ≤ t ∧ t ≤ 3) ∧ (-1000000 ≤ x ∧ x ≤ 1000000) ∧ -1000000 ≤ y ∧ y ≤ 1000000)) : ok t x y = false := by
  cases hk : ok t x y with
  | false => rfl
  | true => exact absurd (ok_iff.mp hk) h
theorem ok_yes {t x y : Int} (h : (0 ≤ t ∧ t ≤ 3) ∧ (-1000000 ≤ x ∧ x ≤ 1000000) ∧ -1000000 ≤ y ∧ y ≤ 1000000) : ok t x y = true := ok_iff.mpr h
end Po
open Po

set_option maxRecDepth 100000 in
theorem isCoord_any (x : Int) (w : World) : Calls Try.prog 8 #[.int .i64 x] w fun e w' => e = .returned (.bool (inC x)) ∧ w' = w := by
  go_enter Try.func8, Try.ntmps8
  go_wp2
  all_goals go_ret
  all_goals exact ⟨ret_bool (by simp [inC]; try omega), rfl⟩
set_option maxRecDepth 100000 in
theorem in_any (x a b : Int) (w : World) : Calls Try.prog 7 #[.int .i64 x, .int .i64 a, .int .i64 b] w fun e w' => e = .returned (.bool (decide (a ≤ x) && decide (x ≤ b))) ∧ w' = w := by
  go_enter Try.func7, Try.ntmps7
  go_wp2
  all_goals go_ret
  all_goals exact ⟨ret_bool (by simp; try omega), rfl⟩
set_option maxRecDepth 100000 in
theorem validP_impl (t x y : Int) (w : World) : Calls Try.prog 6 #[.agg #[.int .i64 t, .int .i64 x, .int .i64 y]] w fun e w' => e = .returned (.bool (ok t x y)) ∧ Below w.heap.size w w' := by
  have HB := Lib.hid ((Below.refl w.heap.size w).alloc (Nat.le_refl _) (.cells #[.int .i64 t, .int .i64 x, .int .i64 y] 25))
  go_enter Try.func6, Try.ntmps6
  go_wp2
  all_goals go_ret
  all_goals exact ⟨ret_bool (Bool.eq_iff_iff.mpr (by simp [ok, inC]; try omega)), HB.out⟩
set_option maxRecDepth 100000 in
theorem validP_spec (t x y : Int) (w : World) : Calls Try.prog 4 #[.agg #[.int .i64 t, .int .i64 x, .int .i64 y]] w fun e w' => e = .returned (.bool (ok t x y)) ∧ Below w.heap.size w w' := by
  have HB := Lib.hid ((Below.refl w.heap.size w).alloc (Nat.le_refl _) (.cells #[.int .i64 t, .int .i64 x, .int .i64 y] 25))
  go_enter Try.func4, Try.ntmps4
  go_wp2
  all_goals go_ret
  all_goals exact ⟨ret_bool (Bool.eq_iff_iff.mpr (by simp [ok, inC]; try omega)), HB.out⟩
set_option maxRecDepth 100000 in
theorem toPose_any (t x y : Int) (w : World) : Calls Try.prog 5 #[.agg #[.int .i64 t, .int .i64 x, .int .i64 y]] w fun e w' => e = .returned (.agg #[.int .i64 t, .int .i64 x, .int .i64 y]) ∧ Below w.heap.size w w' := by
  go_enter Try.func5, Try.ntmps5
  go_wp2
  refine bodyPost_ret (v := .agg #[.int .i64 t, .int .i64 x, .int .i64 y]) (by simp [results, Try.results5, go_sem]) rfl ⟨rfl, ?_⟩
  exact (((Below.refl _ _).alloc (Nat.le_refl _) _).alloc (by simp) _).alloc (by simp; omega) _
end Go.Proofs.Ytdilgjakodimbaa
