/- Contracts of the model's division by one limb (l02Small) and of its search for a limb (l02Digit). Conditions: none. -/
import Derived.Test.YtfhndfcncedieaaDoorProg
import Derived.Test.YtfhndfcncedieaaDoorNatSub
import Derived.Test.YtfhndfcncedieaaDoorReduce
import Derived.Laws.AppendOwnNone
namespace Go.Proofs.YtfhndfcncedieaaDoor
open Go.RowKit Nt
set_option linter.unusedVariables false

/-- One round of a division by a small number. -/
theorem small_step (x d X Q r : Nat) (hd : 0 < d) (h : X = d * Q + r) : (x + 1000000000 * X) / d = (r * 1000000000 + x) / d + 1000000000 * Q ∧ (x + 1000000000 * X) % d = (r * 1000000000 + x) % d := by
  have e : x + 1000000000 * X = d * (1000000000 * Q) + (r * 1000000000 + x) := by
    have : d * (1000000000 * Q) = 1000000000 * (d * Q) := by rw [← Nat.mul_assoc, Nat.mul_comm d, Nat.mul_assoc]
    omega
  rw [e, Nat.mul_add_div hd, Nat.mul_add_mod]
  exact ⟨by rw [Nat.add_comm], rfl⟩
end Go.Proofs.YtfhndfcncedieaaDoor
