/- A slice of links among a law's arguments, opened. Conditions: none. -/
import Derived.Test.YtaboodioabopnaaGreatNLinks
import Derived.Deep.Slices
namespace Go.Proofs.YtaboodioabopnaaGreat
open Go.ChangeShapes Go.WideShapes Go.ChangeAt Go.RowKit Go.Joins Go.Deep
set_option linter.unusedVariables false
theorem add_plainK (b off i : Nat) : (⟨b, off, none⟩ : Addr).add i = ⟨b, off + i, none⟩ := by unfold Addr.add; split <;> simp_all
section
variable {H : Type} {enc : TypeId × Value → H} {P : Program} {w : World}
end
end Go.Proofs.YtaboodioabopnaaGreat
