/- Fractions: products, quotients and the order of the model. Conditions: none. -/
import Derived.Test.YtdilbhkdkppodaaProg
import Derived.Test.YtdilbhkdkppodaaRat3a
namespace Go.Proofs.Ytdilbhkdkppodaa
open Go.RowKit Nt
set_option linter.unusedVariables false

theorem cmp_small {a b : Int} (ha : a.natAbs < 1000000000 ^ 60) (hb : b.natAbs < 1000000000 ^ 60) : cmpS (sgZ a) (sgZ b) (val (magZ a)) (val (magZ b)) = cmpZ a b := by
  rw [sgZ_small ha, sgZ_small hb, magZ_small ha, magZ_small hb, val_dig, val_dig]
  exact cmpS_cmpZ
/-- What RatCmp answers. -/
def cmpR (s : Bool) (xs ys : List Int) (t : Bool) (us vs : List Int) : Int := if okR s xs ys = true ∧ okR t us vs = true then cmpZ (zOf s xs * (val (toN vs) : Int)) (zOf t us * (val (toN ys) : Int)) else 0
theorem cmpR_yes {s : Bool} {xs ys : List Int} {t : Bool} {us vs : List Int} (h1 : okR s xs ys = true) (h2 : okR t us vs = true) : cmpR s xs ys t us vs = cmpZ (zOf s xs * (val (toN vs) : Int)) (zOf t us * (val (toN ys) : Int)) := if_pos ⟨h1, h2⟩
theorem cmpR_no {s : Bool} {xs ys : List Int} {t : Bool} {us vs : List Int} (h : okR s xs ys = false ∨ okR t us vs = false) : cmpR s xs ys t us vs = 0 := if_neg (by rintro ⟨h1, h2⟩; rcases h with h | h <;> simp_all)
/-- What RatSign answers. -/
def sgnR (s : Bool) (xs ys : List Int) : Int := if okR s xs ys = true then cmpZ (zOf s xs) 0 else 0
theorem cmpZ_range (a b : Int) : -1 ≤ cmpZ a b ∧ cmpZ a b ≤ 1 := by unfold cmpZ; (repeat' split) <;> omega
end Go.Proofs.Ytdilbhkdkppodaa
