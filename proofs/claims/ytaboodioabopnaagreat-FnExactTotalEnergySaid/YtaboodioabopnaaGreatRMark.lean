/- Records: how marks are kept. Conditions: none. -/
import Derived.Test.YtaboodioabopnaaGreatRec
namespace Go.Proofs.YtaboodioabopnaaGreat
open Go.RowKit Nt Fr
set_option linter.unusedVariables false

theorem mod3R {x : Int} {k : Nat} (h : x = (k : Int)) : (x % 3 == 0) = (k % 3 == 0) := by
  subst h
  by_cases h : k % 3 = 0
  · rw [h, show (k : Int) % 3 = 0 by omega]; rfl
  · have h1 : ((k : Int) % 3 == 0) = false := by rw [beq_eq_false_iff_ne]; omega
    have h2 : (k % 3 == 0) = false := by rw [beq_eq_false_iff_ne]; exact h
    rw [h1, h2]
theorem markFr_eq {k i m j l : Nat} {s : Bool} {F : Fr} (hs : s = (k % 3 == 0)) (hi : i = k + 1) (hm : m = F.xs.length) (hj : j = k + 1 + F.xs.length) (hl : l = F.ys.length) : (⟨s, marksZ i m, marksZ j l⟩ : Fr) = markFr k F := by
  subst hs hi hm hj hl; rfl
theorem shR_set {ni nf : Nat} {zs : List Rc} (h : ∀ z ∈ zs, z.sh ni nf) (m : Nat) {z : Rc} (hz : z.sh ni nf) : ∀ y ∈ zs.set m z, y.sh ni nf := by
  intro y hy
  rcases List.mem_or_eq_of_mem_set hy with a | rfl
  · exact h y a
  · exact hz
theorem rowsR_lens {ni nf M : Nat} {zs : List Rc} (h : ∀ z ∈ zs, z.sh ni nf) (e : 2 * nf = M) : ∀ y ∈ zs, y.rows.length = M := fun y hy => (Rc.rows_len (h y hy)).trans e
theorem set_selfR {l : List Rc} {i : Nat} {x y : Rc} (h : l[i]? = some x) : (l.set i y)[i]? = some y := by
  have := (List.getElem?_eq_some_iff.mp h).1
  simp [this]
end Go.Proofs.YtaboodioabopnaaGreat
