/- The listed variables of the law of poses; a row of three poses just made; poses compared. Conditions: none. -/
import Derived.Test.YtdilgjakodimbaaDoorLaidD
import Derived.Test.YtdilgjakodimbaaDoorPoses
namespace Go.Proofs.YtdilgjakodimbaaDoor
open Go.RowKit
set_option linter.unusedVariables false
/-- The variables of strconv and the quarter turns hold what their initialisers lay. -/
def LaidP (w : World) : Prop := Laid3 w ∧ LaidQ w
theorem laid_all {W : World} (h : laidMetH Tryd.prog Rows.fnPosesRow.laid W) : LaidP W := laid_poses h
theorem prow3 (u : World) (a b c d e f g h i : Int) (t : TypeId) : PRow (u.alloc (.cells #[.int .i64 a, .int .i64 b, .int .i64 c, .int .i64 d, .int .i64 e, .int .i64 f, .int .i64 g, .int .i64 h, .int .i64 i] t)) (some ⟨u.heap.size, 0, none⟩) 3 [(a, b, c), (d, e, f), (g, h, i)] := by
  refine ⟨rfl, fun _ => ⟨u.heap.size, 0, rfl, by simp, fun k hk => ?_⟩⟩
  match k, hk with
  | 0, _ => simp
  | 1, _ => simp
  | 2, _ => simp
theorem eqP (a b c : Int) (w : World) : (binOp .eql 24 (.agg #[.int .i64 a, .int .i64 b, .int .i64 c]) (.agg #[.int .i64 a, .int .i64 b, .int .i64 c])).run Tryd.prog w = .ok (.bool true) w := by
  go_simp
end Go.Proofs.YtdilgjakodimbaaDoor
