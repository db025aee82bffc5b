/- What RatNeg answers. Conditions: none. -/
import Derived.Test.YtdilbhkdkppodaaProg
import Derived.Test.YtdilbhkdkppodaaRatMath
namespace Go.Proofs.Ytdilbhkdkppodaa
open Go.RowKit Nt
set_option linter.unusedVariables false

/-- What RatNeg answers. -/
def ngS (s : Bool) (xs ys : List Int) : Bool := okR s xs ys && sgZ (-(zOf s xs))
def ngN (s : Bool) (xs ys : List Int) : List Nat := if okR s xs ys = true then magZ (-(zOf s xs)) else []
def ngD (s : Bool) (xs ys : List Int) : List Nat := if okR s xs ys = true then toN ys else []
theorem ng_yes {s : Bool} {xs ys : List Int} (h : okR s xs ys = true) : ngS s xs ys = sgZ (-(zOf s xs)) ∧ ngN s xs ys = magZ (-(zOf s xs)) ∧ ngD s xs ys = toN ys := by simp [ngS, ngN, ngD, h]
theorem ng_no {s : Bool} {xs ys : List Int} (h : okR s xs ys = false) : ngS s xs ys = false ∧ ngN s xs ys = [] ∧ ngD s xs ys = [] := by simp [ngS, ngN, ngD, h]
theorem ngN_len (s : Bool) (xs ys : List Int) : (ngN s xs ys).length ≤ 60 := by unfold ngN; split; exact capd_len _; simp
theorem ngD_len (s : Bool) (xs ys : List Int) : (ngD s xs ys).length ≤ 60 := by
  unfold ngD
  split
  · next h => rw [toN_len]; have := (okR_parts h).2.2.2.1; omega
  · simp
end Go.Proofs.Ytdilbhkdkppodaa
