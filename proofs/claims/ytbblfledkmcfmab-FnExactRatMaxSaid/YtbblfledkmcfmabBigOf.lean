/- Big integers: BigIntOf of the model and of the program. Conditions: none. -/
import Derived.Test.YtbblfledkmcfmabProg
import Derived.Test.YtbblfledkmcfmabBigMake
import Derived.Test.YtbblfledkmcfmabNatOf
namespace Go.Proofs.Ytbblfledkmcfmab
open Go.RowKit Nt
set_option linter.unusedVariables false

theorem int_small {z : Int} (h : -9223372036854775808 ≤ z ∧ z ≤ 9223372036854775807) : z.natAbs < 1000000000 ^ 60 := by
  have h1 : z.natAbs < 1000000000 ^ 4 := by omega
  exact Nat.lt_of_lt_of_le h1 (Nat.pow_le_pow_right (by decide) (by decide))
theorem least_row (w : World) (t : TypeId) : VRow (w.alloc (.cells #[.int .i64 854775808, .int .i64 223372036, .int .i64 9] t)) (some ⟨w.heap.size, 0, none⟩) 3 (nats [854775808, 223372036, 9]) := by
  refine ⟨rfl, fun _ => ⟨w.heap.size, 0, rfl, by simp, fun k hk => ?_⟩⟩
  match k, hk with
  | 0, _ => simp [go_sem, nats, ints]
  | 1, _ => simp [go_sem, nats, ints]
  | 2, _ => simp [go_sem, nats, ints]
theorem least_val : signed true (val [854775808, 223372036, 9]) = -9223372036854775808 := by simp [signed, val]
theorem least_digs : Digs [854775808, 223372036, 9] := by intro d hd; simp at hd; omega
end Go.Proofs.Ytbblfledkmcfmab
