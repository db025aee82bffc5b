/- Fractions: sums, products and quotients of the program. Conditions: none. -/
import Derived.Test.YtdilbhkdkppodaaProg
import Derived.Test.YtdilbhkdkppodaaRat4a
namespace Go.Proofs.Ytdilbhkdkppodaa
open Go.RowKit Nt
set_option linter.unusedVariables false

theorem bigIntMul_let (s t : Bool) (A B : Option Addr) (n c m d : Nat) (xs us : List Int) (z : Int) (g : Bool) (M : List Nat) (h1 : okB s xs = true) (h2 : okB t us = true) (hz : zOf s xs * zOf t us = z) (hI : IsZ g M z) (w : World) (hA : Arg w A n c (ints xs)) (hB : Arg w B m d (ints us)) :
    Calls Try.prog 127 #[.agg #[.bool s, .slice A n c], .agg #[.bool t, .slice B m d]] w (OwnRB 3 g (nats M) w) := by
  have h := bigIntMul_impl s t A B n c m d _ _ w hA.1 hB.1 hA.max hB.max
  have hr := res_yes (ok := okB s xs && okB t us) (z := zOf s xs * zOf t us) (by rw [h1, h2]; rfl)
  rw [hr.1, hr.2, hz, hI.1, hI.2.1] at h
  exact h
theorem natMul_let (A B : Option Addr) (n c m d : Nat) (xs ys : List Int) (h1 : okI xs = true) (h2 : okI ys = true) (hl : val (toN xs) * val (toN ys) < 1000000000 ^ 60) (w : World) (hA : Arg w A n c (ints xs)) (hB : Arg w B m d (ints ys)) :
    Calls Try.prog 129 #[.slice A n c, .slice B m d] w (OwnR 3 (nats (dig (val (toN xs) * val (toN ys)))) w) := by
  have h := natMul_impl A B n c m d xs ys w hA.1 hB.1 hA.max hB.max
  rw [mulN_yes h1 h2, capd_of hl] at h
  exact h
theorem mulz_small {s t : Bool} {ds bs es gs : List Nat} (hv : Half ds bs) (hv2 : Half es gs) : (signed s (val ds) * signed t (val es)).natAbs < 1000000000 ^ 60 := by
  rw [Int.natAbs_mul, signed_abs, signed_abs]
  exact pow_up (mul_small hv.1 hv.2.2.1 hv2.1 hv2.2.2.1) (by decide)
/-- A quotient by way of RatMake is the quotient. -/
theorem div_same {s t : Bool} {a e b c : Nat} (ha : (signed s a * (e : Int)).natAbs < 1000000000 ^ 60) (hb : (signed t b * (c : Int)).natAbs < 1000000000 ^ 60) :
    (b * c = c * b) ∧ (c * b ≠ 0 → signed (sgZ (signed s a * (e : Int)) != sgZ (signed t b * (c : Int))) (a * e) = signed (s != t) (a * e)) := by
  refine ⟨Nat.mul_comm _ _, fun h => ?_⟩
  have hb0 : 0 < b * c := by rw [Nat.mul_comm]; omega
  rcases Nat.eq_zero_or_pos (a * e) with h0 | h0
  · rw [h0]
    cases s <;> cases t <;> simp [signed]
  · rw [sgZ_small ha, sgZ_small hb, ← signed_z, ← signed_z]
    have e1 : decide (signed s (a * e) < 0) = s := by cases s <;> simp [signed] <;> omega
    have e2 : decide (signed t (b * c) < 0) = t := by cases t <;> simp [signed] <;> omega
    rw [e1, e2]
theorem lo_same {z z' : Int} {b : Nat} (h : b ≠ 0 → z = z') : loS z b = loS z' b ∧ loN z b = loN z' b ∧ loD z b = loD z' b := by
  by_cases h0 : b = 0
  · subst h0
    simp [loS, loN, loD, okL_no_zero]
  · rw [h h0]; exact ⟨rfl, rfl, rfl⟩
end Go.Proofs.Ytdilbhkdkppodaa
