/- Big integers: how the model makes one (l03Make), and the program (bigIntWith). Conditions: none. -/
import Derived.Test.YtdilgjakodimbaaGreatDoorProg
import Derived.Test.YtdilgjakodimbaaGreatDoorBig
import Derived.Test.YtdilgjakodimbaaGreatDoorNatDiv
namespace Go.Proofs.YtdilgjakodimbaaGreatDoor
open Go.RowKit Nt
set_option linter.unusedVariables false

theorem VRow.take {w : World} {A : Option Addr} {n m : Nat} {xs : List Value} (h : VRow w A n xs) (hm : m ≤ n) : VRow w A m (xs.take m) := by
  refine ⟨by have := h.1; simp; omega, fun h0 => ?_⟩
  obtain ⟨g, o, e, hg, hc⟩ := h.2 (by omega)
  refine ⟨g, o, e, hg, fun k hk => ?_⟩
  rw [hc k (by omega), List.getElem?_take_of_lt hk]
end Go.Proofs.YtdilgjakodimbaaGreatDoor
