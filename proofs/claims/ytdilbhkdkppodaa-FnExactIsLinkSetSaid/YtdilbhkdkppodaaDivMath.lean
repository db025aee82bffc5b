/- Numbers behind the division of 128 bits by 64: one step of the school method with a base b, and how the two steps and the shift fit. Conditions: none. -/
namespace Go.Proofs.Ytdilbhkdkppodaa.Dv

/-- A trial quotient that is too large by nothing or more. -/
structure Trial (b u d1 d0 v q r : Nat) : Prop where
  sum : q * d1 + r = u
  ge : (u * b + v) / (d1 * b + d0) ≤ q
theorem trial_start (b u d1 d0 v : Nat) (hd : 0 < d1) (hv : v < b) : Trial b u d1 d0 v (u / d1) (u - u / d1 * d1) := by
  refine ⟨by have := Nat.div_mul_le_self u d1; omega, ?_⟩
  rw [Nat.le_div_iff_mul_le hd]
  have h1 : (u * b + v) / (d1 * b + d0) * (d1 * b + d0) ≤ u * b + v := Nat.div_mul_le_self _ _
  generalize (u * b + v) / (d1 * b + d0) = Q at *
  have h2 : Q * d1 * b ≤ u * b + v := by
    have : Q * (d1 * b + d0) = Q * d1 * b + Q * d0 := by rw [Nat.mul_add, Nat.mul_assoc]
    omega
  rcases Nat.lt_or_ge u (Q * d1) with h3 | h3
  · have : (u + 1) * b ≤ Q * d1 * b := Nat.mul_le_mul_right b h3
    rw [Nat.add_mul] at this
    omega
  · exact h3
theorem trial_ident {b u d1 d0 v q r : Nat} (h : q * d1 + r = u) : q * (d1 * b + d0) + (b * r + v) = u * b + v + q * d0 := by
  subst h
  rw [Nat.mul_add, Nat.add_mul, Nat.mul_assoc, Nat.mul_comm b r]
  omega
/-- Where the test says no, the trial is right. -/
theorem trial_done {b u d1 d0 v q r : Nat} (h : Trial b u d1 d0 v q r) (hd : 0 < d1 * b + d0) (ht : q * d0 ≤ b * r + v) : q = (u * b + v) / (d1 * b + d0) := by
  apply Nat.le_antisymm _ h.ge
  rw [Nat.le_div_iff_mul_le hd]
  have := trial_ident (b := b) (d0 := d0) (v := v) h.sum
  omega
/-- Where the test says yes, the trial is too large. -/
theorem trial_more {b u d1 d0 v q r : Nat} (h : Trial b u d1 d0 v q r) (hd : 0 < d1 * b + d0) (hu : u < d1 * b + d0) (hv : v < b) (ht : b ≤ q ∨ b * r + v < q * d0) : (u * b + v) / (d1 * b + d0) < q := by
  rw [Nat.div_lt_iff_lt_mul hd]
  rcases ht with ht | ht
  · have h1 : b * (d1 * b + d0) ≤ q * (d1 * b + d0) := Nat.mul_le_mul_right _ ht
    have h2 : (u + 1) * b ≤ (d1 * b + d0) * b := Nat.mul_le_mul_right _ hu
    rw [Nat.add_mul] at h2
    rw [Nat.mul_comm b (d1 * b + d0)] at h1
    omega
  · have := trial_ident (b := b) (d0 := d0) (v := v) h.sum
    omega
theorem trial_step {b u d1 d0 v q r : Nat} (h : Trial b u d1 d0 v q r) (hlt : (u * b + v) / (d1 * b + d0) < q) : Trial b u d1 d0 v (q - 1) (r + d1) := by
  refine ⟨?_, Nat.le_sub_one_of_lt hlt⟩
  have := h.sum
  have hq : 0 < q := Nat.lt_of_le_of_lt (Nat.zero_le _) hlt
  clear hlt
  obtain ⟨p, rfl⟩ : ∃ p, q = p + 1 := ⟨q - 1, by omega⟩
  rw [Nat.add_mul] at this
  simp
  omega
/-- Where the rest has grown to the base, the trial is right. -/
theorem trial_break {b u d1 d0 v q r : Nat} (h : Trial b u d1 d0 v q r) (hd : 0 < d1 * b + d0) (hq : q ≤ b) (hd0 : d0 < b) (hr : b ≤ r) : q = (u * b + v) / (d1 * b + d0) := by
  refine trial_done h hd ?_
  have h1 : q * d0 ≤ b * b := Nat.mul_le_mul hq (by omega)
  have h2 : b * b ≤ b * r := Nat.mul_le_mul_left b hr
  omega
theorem trial_first {b u d1 d0 : Nat} (hd : 0 < d1) (hu : u < d1 * b + d0) (hd0 : d0 < b) (hb : b ≤ 2 * d1) : u / d1 ≤ b + 1 := by
  have h : u / d1 < b + 2 := by
    rw [Nat.div_lt_iff_lt_mul hd, Nat.add_mul, Nat.mul_comm b d1]
    omega
  omega
theorem quo_lt (b u D v : Nat) (hD : 0 < D) (hu : u < D) (hv : v < b) : (u * b + v) / D < b := by
  rw [Nat.div_lt_iff_lt_mul hD]
  have h : (u + 1) * b ≤ D * b := Nat.mul_le_mul_right _ hu
  rw [Nat.add_mul] at h
  rw [Nat.mul_comm b D]
  omega
/-- Two steps make one division. -/
theorem two_steps (b u v1 v0 D : Nat) (hD : 0 < D) : ((u * b + v1) * b + v0) / D = (u * b + v1) / D * b + ((u * b + v1) % D * b + v0) / D := by
  have h := Nat.div_add_mod (u * b + v1) D
  generalize (u * b + v1) / D = q at *
  generalize (u * b + v1) % D = r at *
  rw [← h]
  have e : (D * q + r) * b + v0 = r * b + v0 + D * (q * b) := by rw [Nat.add_mul, Nat.mul_assoc]; omega
  rw [e, Nat.add_mul_div_left _ _ hD]
  omega
theorem two_mod (b u v1 v0 D : Nat) : ((u * b + v1) * b + v0) % D = ((u * b + v1) % D * b + v0) % D := by
  have h := Nat.div_add_mod (u * b + v1) D
  generalize (u * b + v1) / D = q at *
  generalize (u * b + v1) % D = r at *
  rw [← h]
  have e : (D * q + r) * b + v0 = r * b + v0 + D * (q * b) := by rw [Nat.add_mul, Nat.mul_assoc]; omega
  rw [e, Nat.add_mul_mod_self_left]
theorem shift_mod (x y p : Nat) (hp : 0 < p) : x % y = x * p % (y * p) / p := by
  rw [Nat.mul_mod_mul_right, Nat.mul_div_cancel _ hp]
theorem shift_div (x y p : Nat) (hp : 0 < p) : (x * p) / (y * p) = x / y := Nat.mul_div_mul_right x y hp
end Go.Proofs.Ytdilbhkdkppodaa.Dv
