/- Joined: XRat1 XRat2 XRat3a XRat3b XRat3c. Conditions: none. -/
import Derived.Test.YtodoiekbjjiocaaProg
import Derived.Test.YtodoiekbjjiocaaB4
import Derived.Deep.DeepCutAuto
namespace Go.Proofs.Ytodoiekbjjiocaa
open Go.RowKit Nt
set_option linter.unusedVariables false

end Go.Proofs.Ytodoiekbjjiocaa
namespace Go.Proofs.Ytodoiekbjjiocaa
open Go.RowKit Nt
set_option linter.unusedVariables false

end Go.Proofs.Ytodoiekbjjiocaa
namespace Go.Proofs.Ytodoiekbjjiocaa
open Go.RowKit Nt
set_option linter.unusedVariables false

end Go.Proofs.Ytodoiekbjjiocaa
namespace Go.Proofs.Ytodoiekbjjiocaa
open Go.RowKit Nt
set_option linter.unusedVariables false

theorem cmp_small {a b : Int} (ha : a.natAbs < 1000000000 ^ 60) (hb : b.natAbs < 1000000000 ^ 60) : cmpS (sgZ a) (sgZ b) (val (magZ a)) (val (magZ b)) = cmpZ a b := by
  rw [sgZ_small ha, sgZ_small hb, magZ_small ha, magZ_small hb, val_dig, val_dig]
  exact cmpS_cmpZ
/-- What RatCmp answers. -/
def cmpR (s : Bool) (xs ys : List Int) (t : Bool) (us vs : List Int) : Int := if okR s xs ys = true ∧ okR t us vs = true then cmpZ (zOf s xs * (val (toN vs) : Int)) (zOf t us * (val (toN ys) : Int)) else 0
theorem cmpR_yes {s : Bool} {xs ys : List Int} {t : Bool} {us vs : List Int} (h1 : okR s xs ys = true) (h2 : okR t us vs = true) : cmpR s xs ys t us vs = cmpZ (zOf s xs * (val (toN vs) : Int)) (zOf t us * (val (toN ys) : Int)) := if_pos ⟨h1, h2⟩
theorem cmpR_no {s : Bool} {xs ys : List Int} {t : Bool} {us vs : List Int} (h : okR s xs ys = false ∨ okR t us vs = false) : cmpR s xs ys t us vs = 0 := if_neg (by rintro ⟨h1, h2⟩; rcases h with h | h <;> simp_all)
/-- What RatSign answers. -/
def sgnR (s : Bool) (xs ys : List Int) : Int := if okR s xs ys = true then cmpZ (zOf s xs) 0 else 0
theorem cmpZ_range (a b : Int) : -1 ≤ cmpZ a b ∧ cmpZ a b ≤ 1 := by unfold cmpZ; (repeat' split) <;> omega
end Go.Proofs.Ytodoiekbjjiocaa
namespace Go.Proofs.Ytodoiekbjjiocaa
open Go.RowKit Nt
set_option linter.unusedVariables false

theorem sgnR_nil {s : Bool} {xs ys : List Int} (h : xs.length = 0) : sgnR s xs ys = 0 := by
  unfold sgnR
  rw [zOf, List.eq_nil_of_length_eq_zero h]
  have e : signed s (val (toN [])) = 0 := by cases s <;> rfl
  rw [e]
  split <;> rfl
theorem zOf_pos {xs ys : List Int} {s : Bool} (h : okR s xs ys = true) (hl : 0 < xs.length) : 0 < val (toN xs) := val_pos (okI_nats (okB_ok (okR_parts h).1)).2.1 (by rw [toN_len]; exact hl)
theorem sgnR_true {xs ys : List Int} (h : okR true xs ys = true) (hl : 0 < xs.length) : sgnR true xs ys = -1 := by
  have h1 := zOf_pos h hl
  have h2 : zOf true xs < 0 := by simp [zOf, signed]; omega
  unfold sgnR cmpZ
  rw [if_pos h, if_pos h2]
theorem sgnR_false {xs ys : List Int} (h : okR false xs ys = true) (hl : 0 < xs.length) : sgnR false xs ys = 1 := by
  have h1 := zOf_pos h hl
  have h2 : 0 < zOf false xs := by simp [zOf, signed]; omega
  unfold sgnR cmpZ
  rw [if_pos h, if_neg (by omega), if_neg (by omega)]
theorem sgnR_no {s : Bool} {xs ys : List Int} (h : okR s xs ys = false) : sgnR s xs ys = 0 := by unfold sgnR; rw [h]; rfl
end Go.Proofs.Ytodoiekbjjiocaa
