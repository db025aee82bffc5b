/- Plain facts on decimal numerals (no program in sight). Conditions: none. -/
import Derived.Test.YtbikkbamcleinaaDoorWordMath
import Derived.Lib.AtoiAllCases
import Derived.Lib.ItoaNum
namespace Go.Proofs.YtbikkbamcleinaaDoor
namespace Nu
open Go.Lib Wm

/-- What the digits l spell behind acc. -/
def val (acc : Nat) (l : List UInt8) : Nat := l.foldl (fun a c => a * 10 + (c.toNat - 48)) acc
theorem val_append (acc : Nat) (a b : List UInt8) : val acc (a ++ b) = val (val acc a) b := by simp [val, List.foldl_append]
theorem val_ge (acc : Nat) (l : List UInt8) : acc ≤ val acc l := by
  induction l generalizing acc with
  | nil => exact Nat.le_refl _
  | cons c r ih => have := ih (acc * 10 + (c.toNat - 48)); simp only [val, List.foldl_cons] at this ⊢; omega
theorem val_take_le (l : List UInt8) (i : Nat) : val 0 (l.take i) ≤ val 0 l := by
  have h : val 0 (l.take i ++ l.drop i) = val (val 0 (l.take i)) (l.drop i) := val_append _ _ _
  rw [List.take_append_drop] at h
  rw [h]
  exact val_ge _ _
theorem ofNat_toNat (d : Nat) (h : d < 10) : (UInt8.ofNat (48 + d)).toNat = 48 + d := by
  simp; omega
theorem dg_ofNat (d : Nat) (h : d < 10) : Wm.dg (UInt8.ofNat (48 + d)) = true := by
  unfold Wm.dg
  rw [ofNat_toNat d h]
  simp; omega
theorem dec_small (u : Nat) (h : u < 10) : decDigits u = [UInt8.ofNat (48 + u)] := by rw [decDigits, dif_pos h]
theorem dec_big (u : Nat) (h : ¬ u < 10) : decDigits u = decDigits (u / 10) ++ [UInt8.ofNat (48 + u % 10)] := by rw [decDigits, dif_neg h]
theorem dec_dg (u : Nat) : digAll (decDigits u) = true := by
  induction u using Nat.strongRecOn with
  | _ u ih =>
    by_cases h : u < 10
    · rw [dec_small u h, digAll, List.all_cons, dg_ofNat u h]; rfl
    · rw [dec_big u h]
      have h1 := ih (u / 10) (by omega)
      have h2 := dg_ofNat (u % 10) (by omega)
      unfold digAll at h1 ⊢
      rw [List.all_append, h1, List.all_cons, h2]; rfl
theorem dec_ne (u : Nat) : decDigits u ≠ [] := by
  by_cases h : u < 10
  · rw [dec_small u h]; simp
  · rw [dec_big u h]; simp
theorem dec_val (u : Nat) : val 0 (decDigits u) = u := by
  induction u using Nat.strongRecOn with
  | _ u ih =>
    by_cases h : u < 10
    · rw [dec_small u h]
      have := ofNat_toNat u h
      simp only [val, List.foldl_cons, List.foldl_nil]
      omega
    · rw [dec_big u h, val_append, ih (u / 10) (by omega)]
      have := ofNat_toNat (u % 10) (by omega)
      simp only [val, List.foldl_cons, List.foldl_nil]
      omega
theorem dec_len (k u : Nat) (h : u < 10 ^ (k + 1)) : (decDigits u).length ≤ k + 1 := by
  induction k generalizing u with
  | zero => rw [dec_small u (by simpa using h)]; simp
  | succ k ih =>
    by_cases h1 : u < 10
    · rw [dec_small u h1]; simp
    · rw [dec_big u h1]
      have := ih (u / 10) (by
        rw [Nat.pow_succ] at h
        exact (Nat.div_lt_iff_lt_mul (by decide)).2 h)
      simp; omega
theorem digAll_cons (c : UInt8) (r : List UInt8) (h : digAll (c :: r) = true) : (48 ≤ c.toNat ∧ c.toNat ≤ 57) ∧ digAll r = true := by
  simp [digAll, Wm.dg] at h ⊢
  exact ⟨⟨h.1.1, h.1.2⟩, h.2⟩
theorem parse_dec (l : List UInt8) (acc : Nat) (hd : digAll l = true) (hv : val acc l < 18446744073709551616) : parseUint10 acc l = .ok (val acc l) := by
  induction l generalizing acc with
  | nil => rfl
  | cons c r ih =>
    obtain ⟨hc, hr⟩ := digAll_cons c r hd
    have hge := val_ge (acc * 10 + (c.toNat - 48)) r
    have e : val acc (c :: r) = val (acc * 10 + (c.toNat - 48)) r := rfl
    rw [e] at hv ⊢
    rw [parseUint10, if_pos hc, if_neg (by omega), if_neg (by omega)]
    exact ih _ hr hv
theorem mag_dec (u : Nat) (h : u < 18446744073709551616) : parseMag (decDigits u) = .ok u := by
  unfold parseMag
  rw [if_neg (dec_ne u), parse_dec _ _ (dec_dg u) (by rw [dec_val]; exact h), dec_val]
theorem atoi_itoa (n : Int) (h0 : -9223372036854775808 ≤ n) (h1 : n ≤ 9223372036854775807) : atoiAll (itoa n) = .ok n := by
  unfold itoa
  split
  · rw [atoiAll_minus, mag_dec _ (by omega)]
    simp only [signed]
    rw [if_neg (by omega)]
    congr 1
    omega
  · have hp := mag_dec n.toNat (by omega)
    have hg := dec_dg n.toNat
    cases h : decDigits n.toNat with
    | nil => exact absurd h (dec_ne _)
    | cons c r =>
      rw [h] at hp hg
      have hc := (digAll_cons c r hg).1
      rw [atoiAll_plain c r (by omega) (by omega), hp]
      simp only [signless]
      rw [if_neg (by omega)]
      congr 1
      omega
/-- The numeral of n, as a string. -/
def itoaB (n : Int) : ByteArray := ⟨(itoa n).toArray⟩
theorem itoaB_data (n : Int) : (itoaB n).data.toList = itoa n := by simp [itoaB]
theorem itoaB_inj (n m : Int) (h0 : -9223372036854775808 ≤ n) (h1 : n ≤ 9223372036854775807) (k0 : -9223372036854775808 ≤ m) (k1 : m ≤ 9223372036854775807) (h : itoaB n = itoaB m) : n = m := by
  have e : itoa n = itoa m := by rw [← itoaB_data, ← itoaB_data, h]
  have a := atoi_itoa n h0 h1
  rw [e, atoi_itoa m k0 k1] at a
  injection a with a
  exact a.symm
/-- s is the numeral of an int. -/
def IsNum (s : ByteArray) : Prop := ∃ n : Int, -9223372036854775808 ≤ n ∧ n ≤ 9223372036854775807 ∧ s = itoaB n
theorem dec_len19 (u : Nat) (h : u ≤ 9223372036854775808) : (decDigits u).length ≤ 19 := dec_len 18 u (by
  have : (10 : Nat) ^ (18 + 1) = 10000000000000000000 := by decide
  omega)
theorem itoa_len (n : Int) (h0 : -9223372036854775808 ≤ n) (h1 : n ≤ 9223372036854775807) : (itoaB n).size ≤ 20 := by
  have e : (itoaB n).size = (itoa n).length := by show (itoa n).toArray.size = _; simp
  rw [e]
  unfold itoa
  split
  · have := dec_len19 n.natAbs (by omega); simp; omega
  · have := dec_len19 n.toNat (by omega); omega
end Nu
end Go.Proofs.YtbikkbamcleinaaDoor
