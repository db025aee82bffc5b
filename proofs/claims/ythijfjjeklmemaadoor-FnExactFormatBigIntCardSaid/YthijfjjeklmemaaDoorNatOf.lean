/- Contracts of NatOf, of the model and of the program. Conditions: none. -/
import Derived.Test.YthijfjjeklmemaaDoorProg
import Derived.Test.YthijfjjeklmemaaDoorHelpI
import Derived.Test.YthijfjjeklmemaaDoorNatMath
namespace Go.Proofs.YthijfjjeklmemaaDoor
open Go.RowKit Nt
set_option linter.unusedVariables false

theorem cell_new (w : World) (x : Value) (t : TypeId) : ∀ j u, [x][j]? = some u → (w.alloc (.cells #[x] t)).cell? ((⟨w.heap.size, 0, none⟩ : Addr).add j) = some u := by
  intro j u hj
  cases j with
  | zero => simp at hj; subst hj; simp [Addr.add]
  | succ j => simp at hj
end Go.Proofs.YthijfjjeklmemaaDoor
