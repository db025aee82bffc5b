/- Links: two links merged: words. Conditions: none. -/
import Derived.Test.YtodoiekbjjiocaaGreatJPk
import Derived.Test.YtodoiekbjjiocaaGreatJLk4
namespace Go.Proofs.YtodoiekbjjiocaaGreat
open Go.RowKit Nt Fr
set_option linter.unusedVariables false
theorem mg_no {A B C E : Int} {P Q R V U T : Fr} (h : okK A B P Q R = false ∨ okK C E V U T = false ∨ ¬ A = C ∨ ¬ B = E) : mgOk A B C E P Q R V U T = false:=by
 unfold mgOk
 rcases h with h | h | h | h
 ·rw [h]; simp
 ·rw [h]; simp
 ·rw [decide_eq_false h]; simp
 ·rw [decide_eq_false h]; simp
theorem mg_mw {A B C E : Int} {P Q R V U T : Fr} (h1 : okK A B P Q R = true) (h2 : okK C E V U T = true) (h3 : A = C) (h4 : B = E) : mgOk A B C E P Q R V U T = mwOk A B P Q R V U T:=by
 unfold mgOk; rw [h1,h2,decide_eq_true h3,decide_eq_true h4]; rfl
end Go.Proofs.YtodoiekbjjiocaaGreat
