/- Big integers: BigIntCmp of the model and of the program. Conditions: none. -/
import Derived.Test.YtdilgjakodimbaaGreatDoorProg
import Derived.Test.YtdilgjakodimbaaGreatDoorBig
import Derived.Deep.DeepCutAuto
namespace Go.Proofs.YtdilgjakodimbaaGreatDoor
open Go.RowKit Nt
set_option linter.unusedVariables false

/-- How two numbers with signs compare. -/
def cmpS (s t : Bool) (a b : Nat) : Int := if s = true ∧ t = false then -1 else if s = false ∧ t = true then 1 else if s = true then sgn b a else sgn a b
/-- What BigIntCmp answers. -/
def cmpB (s t : Bool) (xs ys : List Int) : Int := if okB s xs = true ∧ okB t ys = true then cmpS s t (val (toN xs)) (val (toN ys)) else 0
theorem cmpB_yes {s t : Bool} {xs ys : List Int} (h1 : okB s xs = true) (h2 : okB t ys = true) : cmpB s t xs ys = cmpS s t (val (toN xs)) (val (toN ys)) := if_pos ⟨h1, h2⟩
theorem cmpB_no {s t : Bool} {xs ys : List Int} (h : okB s xs = false ∨ okB t ys = false) : cmpB s t xs ys = 0 := if_neg (by rintro ⟨h1, h2⟩; rcases h with h | h <;> simp_all)
theorem below_al2 {w u : World} {o : Obj} (h : Below w.heap.size w u) : Below w.heap.size w (u.alloc o) := h.alloc h.size o
end Go.Proofs.YtdilgjakodimbaaGreatDoor
