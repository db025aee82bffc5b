/- Joined: XRat4a XRat4b XRat4c XRatMin. Conditions: none. -/
import Derived.Test.YtbikkbamcleinaaDoorProg
import Derived.Test.YtbikkbamcleinaaDoorB5
import Derived.Test.YtbikkbamcleinaaDoorB4
import Derived.Test.YtbikkbamcleinaaDoorB6
import Derived.Test.YtbikkbamcleinaaDoorB2
import Derived.Deep.DeepCutAuto
namespace Go.Proofs.YtbikkbamcleinaaDoor
open Go.RowKit Nt
set_option linter.unusedVariables false

/-- The result g, M of the big integers is the number z. -/
def IsZ (g : Bool) (M : List Nat) (z : Int) : Prop := sgZ z = g ∧ magZ z = M ∧ z.natAbs < 1000000000 ^ 60
theorem IsZ.back {g : Bool} {M : List Nat} {z : Int} (h : IsZ g M z) : signed g (val M) = z := by obtain ⟨rfl, rfl, h3⟩ := h; exact back_z h3
theorem IsZ.can {g : Bool} {M : List Nat} {z : Int} (h : IsZ g M z) : Canon M := by obtain ⟨rfl, rfl, h3⟩ := h; exact magZ_can z
theorem IsZ.len {g : Bool} {M : List Nat} {z : Int} (h : IsZ g M z) : M.length ≤ 60 := by obtain ⟨rfl, rfl, h3⟩ := h; exact capd_len _
theorem IsZ.ok {g : Bool} {M : List Nat} {z : Int} (h : IsZ g M z) : okB g (M.map fun x : Nat => (x : Int)) = true := by
  unfold okB
  rw [okI_of_nats h.can h.len]
  obtain ⟨rfl, rfl, h3⟩ := h
  rw [sgZ_small h3, magZ_small h3]
  by_cases hz : z < 0
  · have : 0 < (dig z.natAbs).length := dig_pos_len (by omega)
    simp [hz, this]
  · simp [hz]
theorem IsZ.z {g : Bool} {M : List Nat} {z : Int} (h : IsZ g M z) : zOf g (M.map fun x : Nat => (x : Int)) = z := by rw [zOf, toN_nats]; exact h.back
theorem IsZ.of {z : Int} (h : z.natAbs < 1000000000 ^ 60) : IsZ (sgZ z) (magZ z) z := ⟨rfl, rfl, h⟩
theorem zOf_false (vs : List Int) : zOf false vs = (val (toN vs) : Int) := by simp [zOf, signed]
theorem okB_false (vs : List Int) : okB false vs = okI vs := by simp [okB]
theorem res_yes {ok : Bool} {z : Int} (h : ok = true) : resS ok z = sgZ z ∧ resM ok z = magZ z := by subst h; simp [resS, resM]
end Go.Proofs.YtbikkbamcleinaaDoor
namespace Go.Proofs.YtbikkbamcleinaaDoor
open Go.RowKit Nt
set_option linter.unusedVariables false

theorem mulz_small {s t : Bool} {ds bs es gs : List Nat} (hv : Half ds bs) (hv2 : Half es gs) : (signed s (val ds) * signed t (val es)).natAbs < 1000000000 ^ 60 := by
  rw [Int.natAbs_mul, signed_abs, signed_abs]
  exact pow_up (mul_small hv.1 hv.2.2.1 hv2.1 hv2.2.2.1) (by decide)
/-- A quotient by way of RatMake is the quotient. -/
theorem div_same {s t : Bool} {a e b c : Nat} (ha : (signed s a * (e : Int)).natAbs < 1000000000 ^ 60) (hb : (signed t b * (c : Int)).natAbs < 1000000000 ^ 60) :
    (b * c = c * b) ∧ (c * b ≠ 0 → signed (sgZ (signed s a * (e : Int)) != sgZ (signed t b * (c : Int))) (a * e) = signed (s != t) (a * e)) := by
  refine ⟨Nat.mul_comm _ _, fun h => ?_⟩
  have hb0 : 0 < b * c := by rw [Nat.mul_comm]; omega
  rcases Nat.eq_zero_or_pos (a * e) with h0 | h0
  · rw [h0]
    cases s <;> cases t <;> simp [signed]
  · rw [sgZ_small ha, sgZ_small hb, ← signed_z, ← signed_z]
    have e1 : decide (signed s (a * e) < 0) = s := by cases s <;> simp [signed] <;> omega
    have e2 : decide (signed t (b * c) < 0) = t := by cases t <;> simp [signed] <;> omega
    rw [e1, e2]
theorem lo_same {z z' : Int} {b : Nat} (h : b ≠ 0 → z = z') : loS z b = loS z' b ∧ loN z b = loN z' b ∧ loD z b = loD z' b := by
  by_cases h0 : b = 0
  · subst h0
    simp [loS, loN, loD, okL_no_zero]
  · rw [h h0]; exact ⟨rfl, rfl, rfl⟩
end Go.Proofs.YtbikkbamcleinaaDoor
namespace Go.Proofs.YtbikkbamcleinaaDoor
open Go.RowKit Nt
set_option linter.unusedVariables false

theorem neg_small {s : Bool} {xs ys : List Int} (h : okR s xs ys = true) : (-(zOf s xs)).natAbs < 1000000000 ^ 60 := by rw [Int.natAbs_neg]; exact okB_abs (okR_parts h).1
theorem cmpB_zero {s : Bool} {xs : List Int} (h : okB s xs = true) : cmpB s false xs [] = cmpZ (zOf s xs) 0 := by
  rw [cmpB_yes h (by decide)]
  have h1 : IsZ s (toN xs) (zOf s xs) := by
    obtain ⟨_, hc, _⟩ := okI_nats (okB_ok h)
    have hb := okB_abs h
    refine ⟨?_, ?_, hb⟩
    · rw [zOf, sgZ_signed, capd_ok h, toN_len]
      cases s
      · rfl
      · simp [okB_len h]
    · rw [zOf, magZ_signed, capd_ok h]
  have h2 : val (toN []) = 0 := rfl
  have h3 := cmp_small (a := zOf s xs) (b := 0) h1.2.2 (by simp)
  have e1 : sgZ 0 = false := by rw [sgZ_small (by simp)]; rfl
  have e2 : magZ 0 = [] := by rw [magZ_small (by simp)]; exact dig_zero
  rw [h1.1, h1.2.1, e1, e2] at h3
  exact h3
theorem int_rat {x : Int} (hx : -9223372036854775808 ≤ x ∧ x ≤ 9223372036854775807) : rtS (okB (sgZ x) ((magZ x).map fun x : Nat => (x : Int)) && okB (sgZ 1) ((magZ 1).map fun x : Nat => (x : Int))) (signed (sgZ x != sgZ 1) (val (toN ((magZ x).map fun x : Nat => (x : Int))))) (val (toN ((magZ 1).map fun x : Nat => (x : Int)))) = sgZ x ∧ rtN (okB (sgZ x) ((magZ x).map fun x : Nat => (x : Int)) && okB (sgZ 1) ((magZ 1).map fun x : Nat => (x : Int))) (signed (sgZ x != sgZ 1) (val (toN ((magZ x).map fun x : Nat => (x : Int))))) (val (toN ((magZ 1).map fun x : Nat => (x : Int)))) = magZ x ∧ rtD (okB (sgZ x) ((magZ x).map fun x : Nat => (x : Int)) && okB (sgZ 1) ((magZ 1).map fun x : Nat => (x : Int))) (signed (sgZ x != sgZ 1) (val (toN ((magZ x).map fun x : Nat => (x : Int))))) (val (toN ((magZ 1).map fun x : Nat => (x : Int)))) = [1] := by
  have hs := int_small hx
  have h1 := IsZ.of hs
  have h2 : IsZ (sgZ 1) (magZ 1) 1 := IsZ.of (int_small (by decide))
  have hok : (okB (sgZ x) ((magZ x).map fun x : Nat => (x : Int)) && okB (sgZ 1) ((magZ 1).map fun x : Nat => (x : Int))) = true := by rw [h1.ok, h2.ok]; rfl
  rw [rtS_yes hok, rtN_yes hok, rtD_yes hok, toN_nats, toN_nats]
  have e1 : sgZ 1 = false := by rw [sgZ_small (int_small (by decide))]; rfl
  have e2 : magZ 1 = [1] := by rw [magZ_small (int_small (by decide))]; exact dig_one
  have e3 : val [1] = 1 := rfl
  have e4 : (sgZ x != false) = sgZ x := by cases sgZ x <;> rfl
  have e5 : val (magZ x) = x.natAbs := by rw [magZ_small hs, val_dig]
  have hg : Nat.gcd x.natAbs 1 = 1 := Nat.gcd_one_right _
  have hl : (dig x.natAbs).length ≤ 24 := dig_len (Nat.lt_of_le_of_lt (show x.natAbs ≤ 9223372036854775808 by omega) (by decide))
  have hL : okL x.natAbs 1 = true := okL_bound (by decide) hl (by rw [dig_one]; decide)
  have hz : signed (sgZ x) x.natAbs = x := by have := h1.back; rw [e5] at this; exact this
  rw [e1, e2, e3, e4, e5]
  obtain ⟨q1, q2, q3⟩ := low_some hz hL
  rw [hg, Nat.div_one] at q1 q2
  rw [hg, Nat.div_one, dig_one] at q3
  rw [hz, q1, q2, q3]
  refine ⟨?_, ?_, rfl⟩
  · rw [sgZ_small hs]
    by_cases hn : x < 0
    · have : 0 < (dig x.natAbs).length := dig_pos_len (by omega)
      simp [hn, this]
    · simp [hn]
  · rw [magZ_small hs]
end Go.Proofs.YtbikkbamcleinaaDoor
namespace Go.Proofs.YtbikkbamcleinaaDoor
open Go.RowKit Nt
set_option linter.unusedVariables false

/-- One of two fractions where both are valid, else the zero value. -/
def slS (ok p s t : Bool) : Bool := ok && (if p = true then s else t)
def slN (ok p : Bool) (xs us : List Int) : List Nat := if ok = true then (if p = true then toN xs else toN us) else []
def mnP (s : Bool) (xs ys : List Int) (t : Bool) (us vs : List Int) : Bool := decide (cmpZ (zOf s xs * (val (toN vs) : Int)) (zOf t us * (val (toN ys) : Int)) ≤ 0)
def mnS (s : Bool) (xs ys : List Int) (t : Bool) (us vs : List Int) : Bool := slS (okR s xs ys && okR t us vs) (mnP s xs ys t us vs) s t
def mnN (s : Bool) (xs ys : List Int) (t : Bool) (us vs : List Int) : List Nat := slN (okR s xs ys && okR t us vs) (mnP s xs ys t us vs) xs us
def mnD (s : Bool) (xs ys : List Int) (t : Bool) (us vs : List Int) : List Nat := slN (okR s xs ys && okR t us vs) (mnP s xs ys t us vs) ys vs
theorem mnN_len (s : Bool) (xs ys : List Int) (t : Bool) (us vs : List Int) : (mnN s xs ys t us vs).length ≤ 60 := by
  unfold mnN slN
  split
  · next h =>
    have h1 := okR_parts (Bool.and_eq_true_iff.mp h).1
    have h2 := okR_parts (Bool.and_eq_true_iff.mp h).2
    split <;> (rw [toN_len]; omega)
  · simp
theorem mnD_len (s : Bool) (xs ys : List Int) (t : Bool) (us vs : List Int) : (mnD s xs ys t us vs).length ≤ 60 := by
  unfold mnD slN
  split
  · next h =>
    have h1 := okR_parts (Bool.and_eq_true_iff.mp h).1
    have h2 := okR_parts (Bool.and_eq_true_iff.mp h).2
    split <;> (rw [toN_len]; omega)
  · simp
def mxP (s : Bool) (xs ys : List Int) (t : Bool) (us vs : List Int) : Bool := decide (0 ≤ cmpZ (zOf s xs * (val (toN vs) : Int)) (zOf t us * (val (toN ys) : Int)))
def mxS (s : Bool) (xs ys : List Int) (t : Bool) (us vs : List Int) : Bool := slS (okR s xs ys && okR t us vs) (mxP s xs ys t us vs) s t
def mxN (s : Bool) (xs ys : List Int) (t : Bool) (us vs : List Int) : List Nat := slN (okR s xs ys && okR t us vs) (mxP s xs ys t us vs) xs us
def mxD (s : Bool) (xs ys : List Int) (t : Bool) (us vs : List Int) : List Nat := slN (okR s xs ys && okR t us vs) (mxP s xs ys t us vs) ys vs
theorem mxN_len (s : Bool) (xs ys : List Int) (t : Bool) (us vs : List Int) : (mxN s xs ys t us vs).length ≤ 60 := by
  unfold mxN slN
  split
  · next h =>
    have h1 := okR_parts (Bool.and_eq_true_iff.mp h).1
    have h2 := okR_parts (Bool.and_eq_true_iff.mp h).2
    split <;> (rw [toN_len]; omega)
  · simp
theorem mxD_len (s : Bool) (xs ys : List Int) (t : Bool) (us vs : List Int) : (mxD s xs ys t us vs).length ≤ 60 := by
  unfold mxD slN
  split
  · next h =>
    have h1 := okR_parts (Bool.and_eq_true_iff.mp h).1
    have h2 := okR_parts (Bool.and_eq_true_iff.mp h).2
    split <;> (rw [toN_len]; omega)
  · simp
theorem sl_no {ok p s t : Bool} {xs us : List Int} (h : ok = false) : slS ok p s t = false ∧ slN ok p xs us = [] := by simp [slS, slN, h]
theorem sl_left {ok p s t : Bool} {xs us : List Int} (h : ok = true) (hp : p = true) : slS ok p s t = s ∧ slN ok p xs us = toN xs := by simp [slS, slN, h, hp]
theorem sl_right {ok p s t : Bool} {xs us : List Int} (h : ok = true) (hp : p = false) : slS ok p s t = t ∧ slN ok p xs us = toN us := by simp [slS, slN, h, hp]
end Go.Proofs.YtbikkbamcleinaaDoor
