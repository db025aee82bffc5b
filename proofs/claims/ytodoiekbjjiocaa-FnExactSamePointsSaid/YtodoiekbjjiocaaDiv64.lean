/- Contracts of math/bits.Add64 and Div64 at this program. Conditions: as each states. -/
import Derived.Test.YtodoiekbjjiocaaProg
import Derived.Test.YtodoiekbjjiocaaShelf
import Derived.Test.YtodoiekbjjiocaaB1
import Derived.Laws.Externs
import Derived.Laws.Bits64b
namespace Go.Proofs.Ytodoiekbjjiocaa
open Go.RowKit Dv
set_option linter.unusedVariables false

theorem bitLen_spec (x : Nat) (hx : x < 18446744073709551616) : x < 2 ^ Lib.bitLen x ∧ (0 < x → 2 ^ Lib.bitLen x ≤ 2 * x) := by
  induction x using Nat.strongRecOn with
  | _ x ih =>
    by_cases h0 : x = 0
    · subst h0; decide
    · obtain ⟨h1, h2⟩ := ih (x / 2) (by omega) (by omega)
      rw [Lib.bitLen_half x h0 hx, Nat.add_comm, Nat.pow_succ]
      refine ⟨by omega, fun _ => ?_⟩
      by_cases h3 : 0 < x / 2
      · have := h2 h3; omega
      · have e : x / 2 = 0 := by omega
        rw [e]
        have : (2 : Nat) ^ Lib.bitLen 0 = 1 := by decide
        omega
theorem norm_shift (y : Nat) (h0 : 0 < y) (hy : y < 18446744073709551616) : ∃ s : Nat, (64 - (Lib.bitLen y : Int)) = (s : Int) ∧ s ≤ 63 ∧ y * 2 ^ s < 18446744073709551616 ∧ 9223372036854775808 ≤ y * 2 ^ s := by
  obtain ⟨h1, h2⟩ := bitLen_spec y hy
  have h2 := h2 h0
  have hL : Lib.bitLen y ≤ 64 := by
    rcases Nat.lt_or_ge 64 (Lib.bitLen y) with h | h
    · have : (2 : Nat) ^ 65 ≤ 2 ^ Lib.bitLen y := Nat.pow_le_pow_right (by decide) h
      omega
    · exact h
  have hL0 : 0 < Lib.bitLen y := by
    rcases Nat.eq_zero_or_pos (Lib.bitLen y) with h | h
    · rw [h] at h1; omega
    · exact h
  obtain ⟨s, hs⟩ : ∃ s, Lib.bitLen y + s = 64 := ⟨64 - Lib.bitLen y, by omega⟩
  have hp : 2 ^ Lib.bitLen y * 2 ^ s = 18446744073709551616 := by rw [← Nat.pow_add, hs]
  have hpos : 0 < 2 ^ s := Nat.pow_pos (by decide)
  refine ⟨s, by omega, by omega, ?_, ?_⟩
  · rw [← hp]; exact Nat.mul_lt_mul_of_pos_right h1 hpos
  · have h3 : 2 ^ Lib.bitLen y * 2 ^ s ≤ 2 * y * 2 ^ s := Nat.mul_le_mul_right _ h2
    rw [hp, Nat.mul_assoc] at h3
    omega
/-- The shift of a number of 128 bits, by halves. -/
theorem shift_parts (hi lo y s : Nat) (hlo : lo < 18446744073709551616) (hh : hi < y) (hs : s ≤ 63) (hD : y * 2 ^ s < 18446744073709551616) :
    (hi * 18446744073709551616 + lo) * 2 ^ s = (hi * 2 ^ s + lo / 2 ^ (64 - s)) * 18446744073709551616 + lo * 2 ^ s % 18446744073709551616 ∧ hi * 2 ^ s + lo / 2 ^ (64 - s) < y * 2 ^ s ∧ lo / 2 ^ (64 - s) < 2 ^ s ∧ (hi * 2 ^ s ||| lo / 2 ^ (64 - s)) = hi * 2 ^ s + lo / 2 ^ (64 - s) := by
  have hp : 2 ^ (64 - s) * 2 ^ s = 18446744073709551616 := by rw [← Nat.pow_add]; have : 64 - s + s = 64 := by omega
                                                              rw [this]
  have h1 : lo * 2 ^ s / 18446744073709551616 = lo / 2 ^ (64 - s) := by
    rw [← hp]; exact Nat.mul_div_mul_right _ _ (Nat.pow_pos (by decide))
  have h2 : lo / 2 ^ (64 - s) < 2 ^ s := by
    rw [Nat.div_lt_iff_lt_mul (Nat.pow_pos (by decide)), Nat.mul_comm, hp]; exact hlo
  have h3 := Nat.div_add_mod (lo * 2 ^ s) 18446744073709551616
  rw [h1] at h3
  have h4 : (hi + 1) * 2 ^ s ≤ y * 2 ^ s := Nat.mul_le_mul_right _ hh
  rw [Nat.add_mul] at h4
  refine ⟨?_, by omega, h2, ?_⟩
  · rw [Nat.add_mul, Nat.add_mul, Nat.mul_assoc hi, Nat.mul_comm 18446744073709551616 (2 ^ s), ← Nat.mul_assoc]
    omega
  · rw [Nat.mul_comm hi, ← Nat.two_pow_add_eq_or_of_lt h2]
end Go.Proofs.Ytodoiekbjjiocaa
