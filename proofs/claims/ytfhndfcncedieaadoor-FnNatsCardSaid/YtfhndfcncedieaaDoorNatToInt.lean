/- Contracts of NatToInt, of the model and of the program. Conditions: none. -/
import Derived.Test.YtfhndfcncedieaaDoorProg
import Derived.Test.YtfhndfcncedieaaDoorNatCmp
namespace Go.Proofs.YtfhndfcncedieaaDoor
open Go.RowKit Nt
set_option linter.unusedVariables false

/-- What NatToInt answers. -/
def fitsI (xs : List Int) : Bool := okI xs && decide (val (toN xs) ≤ 9223372036854775807)
def intI (xs : List Int) : Int := if fitsI xs = true then (val (toN xs) : Nat) else 0
theorem fits_iff {xs : List Int} : fitsI xs = true ↔ okI xs = true ∧ val (toN xs) ≤ 9223372036854775807 := by simp [fitsI]
theorem val_drop_le (ds : List Nat) (k : Nat) : val (ds.drop k) ≤ val ds := by
  by_cases h : k ≤ ds.length
  · rw [val_take_drop ds k h]
    have h1 : val (ds.drop k) ≤ 1000000000 ^ k * val (ds.drop k) := Nat.le_mul_of_pos_left _ (pow_pos k)
    omega
  · rw [List.drop_of_length_le (by omega)]; simp [val]
theorem ret_two {z z' : Int} {b b' : Bool} (h1 : z = z') (h2 : b = b') : Ending.returned (.tuple #[.int .i64 z, .bool b]) = .returned (.tuple #[.int .i64 z', .bool b']) := by rw [h1, h2]
theorem int_no {xs : List Int} (h : fitsI xs = false) : (0 : Int) = intI xs := by simp [intI, h]
theorem int_yes {xs : List Int} (h : fitsI xs = true) : ((val (toN xs) : Nat) : Int) = intI xs := by simp [intI, h]

end Go.Proofs.YtfhndfcncedieaaDoor
