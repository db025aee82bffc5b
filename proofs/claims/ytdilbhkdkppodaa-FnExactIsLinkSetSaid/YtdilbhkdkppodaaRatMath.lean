/- Fractions: what both sides answer, as functions of numbers. Conditions: none. -/
import Derived.Test.YtdilbhkdkppodaaBigMake
import Derived.Test.YtdilbhkdkppodaaBigCmp
import Derived.Test.YtdilbhkdkppodaaNatGcd
import Derived.Test.YtdilbhkdkppodaaHelpR
namespace Go.Proofs.Ytdilbhkdkppodaa
open Go.RowKit Nt
set_option linter.unusedVariables false

/-- A row that a function may be given: it reads as X; its capacity is in order. -/
def Arg (w : World) (A : Option Addr) (n c : Nat) (X : List Value) : Prop := VRow w A n X ∧ n ≤ c ∧ c ≤ maxLen ∧ (A = none → c = 0)
theorem Arg.below {w w' : World} {B : Nat} {A : Option Addr} {n c : Nat} {X : List Value} (h : Arg w A n c X) (hb : Below B w w') (hB : w.heap.size ≤ B) : Arg w' A n c X := ⟨h.1.below hb hB, h.2⟩
theorem Arg.max {w : World} {A : Option Addr} {n c : Nat} {X : List Value} (h : Arg w A n c X) : n ≤ maxLen := Nat.le_trans h.2.1 h.2.2.1
theorem OwnV.arg {w : World} {base : Nat} {e : TypeId} {A : Option Addr} {n c : Nat} {X : List Value} (h : OwnV w base e (.slice A n c) X) : Arg w A n c X := ⟨h.row, h.cap.1, h.cap.2, h.nil_cap⟩
theorem Arg.ilen {w : World} {A : Option Addr} {n c : Nat} {xs : List Int} (h : Arg w A n c (ints xs)) : xs.length = n := by simpa [ints] using h.1.1
theorem Arg.nlen {w : World} {A : Option Addr} {n c : Nat} {ds : List Nat} (h : Arg w A n c (nats ds)) : ds.length = n := by simpa [nats_len] using h.1.1
/-- A numerator and a denominator within MaxRat limbs. -/
def Valid (ds bs : List Nat) : Prop := Canon ds ∧ Canon bs ∧ ds.length ≤ 24 ∧ bs.length ≤ 24 ∧ 0 < bs.length
/-- Is it a fraction? -/
def okR (s : Bool) (xs ys : List Int) : Bool := okB s xs && okI ys && decide (0 < ys.length) && decide (ys.length ≤ 24) && decide (xs.length ≤ 24) && decide (Nat.gcd (val (toN xs)) (val (toN ys)) = 1)
/-- Is a / b, in lowest terms, within MaxRat limbs? -/
def okL (a b : Nat) : Bool := decide (b ≠ 0) && decide ((dig (a / Nat.gcd a b)).length ≤ 24) && decide ((dig (b / Nat.gcd a b)).length ≤ 24)
/-- z / b in lowest terms, or the zero value: sign, numerator, denominator. -/
def loS (z : Int) (b : Nat) : Bool := okL z.natAbs b && decide (z < 0)
def loN (z : Int) (b : Nat) : List Nat := if okL z.natAbs b = true then dig (z.natAbs / Nat.gcd z.natAbs b) else []
def loD (z : Int) (b : Nat) : List Nat := if okL z.natAbs b = true then dig (b / Nat.gcd z.natAbs b) else []
/-- The same where the arguments are valid, else the zero value. -/
def rtS (ok : Bool) (z : Int) (b : Nat) : Bool := ok && loS z b
def rtN (ok : Bool) (z : Int) (b : Nat) : List Nat := if ok = true then loN z b else []
def rtD (ok : Bool) (z : Int) (b : Nat) : List Nat := if ok = true then loD z b else []
theorem rtS_yes {ok : Bool} {z : Int} {b : Nat} (h : ok = true) : rtS ok z b = loS z b := by unfold rtS; rw [h]; rfl
theorem rtN_yes {ok : Bool} {z : Int} {b : Nat} (h : ok = true) : rtN ok z b = loN z b := if_pos h
theorem rtD_yes {ok : Bool} {z : Int} {b : Nat} (h : ok = true) : rtD ok z b = loD z b := if_pos h
theorem rtS_no {ok : Bool} {z : Int} {b : Nat} (h : ok = false) : rtS ok z b = false := by unfold rtS; rw [h]; rfl
theorem rtN_no {ok : Bool} {z : Int} {b : Nat} (h : ok = false) : rtN ok z b = [] := by unfold rtN; rw [h]; rfl
theorem rtD_no {ok : Bool} {z : Int} {b : Nat} (h : ok = false) : rtD ok z b = [] := by unfold rtD; rw [h]; rfl
theorem loN_len (z : Int) (b : Nat) : (loN z b).length ≤ 24 := by
  unfold loN
  split
  · next h => unfold okL at h; simp at h; exact h.1.2
  · simp
theorem loD_len (z : Int) (b : Nat) : (loD z b).length ≤ 24 := by
  unfold loD
  split
  · next h => unfold okL at h; simp at h; exact h.2
  · simp
theorem rtN_len (ok : Bool) (z : Int) (b : Nat) : (rtN ok z b).length ≤ 24 := by unfold rtN; split; exact loN_len _ _; simp
theorem rtD_len (ok : Bool) (z : Int) (b : Nat) : (rtD ok z b).length ≤ 24 := by unfold rtD; split; exact loD_len _ _; simp
theorem okR_parts {s : Bool} {xs ys : List Int} (h : okR s xs ys = true) : okB s xs = true ∧ okI ys = true ∧ 0 < ys.length ∧ ys.length ≤ 24 ∧ xs.length ≤ 24 ∧ Nat.gcd (val (toN xs)) (val (toN ys)) = 1 := by
  unfold okR at h
  simp at h
  exact ⟨h.1.1.1.1.1, h.1.1.1.1.2, h.1.1.1.2, h.1.1.2, h.1.2, h.2⟩
theorem okR_nats {s : Bool} {xs ys : List Int} (h : okR s xs ys = true) : ints xs = nats (toN xs) ∧ ints ys = nats (toN ys) ∧ Valid (toN xs) (toN ys) := by
  obtain ⟨h1, h2, h3, h4, h5, h6⟩ := okR_parts h
  obtain ⟨a1, a2, a3⟩ := okI_nats (okB_ok h1)
  obtain ⟨b1, b2, b3⟩ := okI_nats h2
  exact ⟨a1, b1, a2, b2, by rw [toN_len]; exact h5, by rw [toN_len]; exact h4, by rw [toN_len]; exact h3⟩
theorem dig_one : dig 1 = [1] := by
  have h : Canon [1] := ⟨by intro d hd; simp at hd; subst hd; decide, by simp⟩
  have := dig_of_can h
  simpa [val] using this
/-- Is the row the number 1? -/
def isOne (ds : List Nat) : Bool := decide (ds = [1])
theorem isOne_val {ds : List Nat} (h : Canon ds) : isOne ds = decide (val ds = 1) := by
  unfold isOne
  by_cases e : ds = [1]
  · subst e; simp [val]
  · have : val ds ≠ 1 := by
      intro h1
      apply e
      rw [← dig_of_can h, h1, dig_one]
    simp [e, this]
theorem isOne_dig (a : Nat) : isOne (dig a) = decide (a = 1) := by rw [isOne_val (dig_can a), val_dig]
theorem val_pos {ds : List Nat} (h : Canon ds) (hl : 0 < ds.length) : 0 < val ds := by
  rcases Nat.eq_zero_or_pos (val ds) with h0 | h0
  · have h1 := dig_of_can h
    rw [h0, dig_zero] at h1
    rw [← h1] at hl
    simp at hl
  · exact h0
theorem dig_pos_len {a : Nat} (h : 0 < a) : 0 < (dig a).length := by
  rcases Nat.eq_zero_or_pos (dig a).length with h0 | h0
  · have h1 := val_dig a
    rw [List.eq_nil_of_length_eq_zero h0] at h1
    simp [val] at h1
    omega
  · exact h0
theorem len_lt_of {a k : Nat} (h : a < 1000000000 ^ k) : (dig a).length ≤ k := dig_len h
theorem loS_of {z : Int} {b : Nat} (s : Bool) {a : Nat} (hz : signed s a = z) : (loS z b = (okL a b && (s && decide (0 < a)))) := by
  subst hz
  unfold loS
  rw [signed_abs]
  cases s
  · have : ¬ signed false a < 0 := by simp [signed]
    simp [this]
  · by_cases h : 0 < a
    · have : signed true a < 0 := by simp [signed]; omega
      simp [this, h]
    · have : ¬ signed true a < 0 := by simp [signed]; omega
      simp [this, h]
theorem loN_of {z : Int} {b : Nat} (s : Bool) {a : Nat} (hz : signed s a = z) : loN z b = if okL a b = true then dig (a / Nat.gcd a b) else [] := by subst hz; unfold loN; rw [signed_abs]
theorem loD_of {z : Int} {b : Nat} (s : Bool) {a : Nat} (hz : signed s a = z) : loD z b = if okL a b = true then dig (b / Nat.gcd a b) else [] := by subst hz; unfold loD; rw [signed_abs]
/-- How two integers compare. -/
def cmpZ (a b : Int) : Int := if a < b then -1 else if a = b then 0 else 1
theorem sgZ_small {z : Int} (h : z.natAbs < 1000000000 ^ 60) : sgZ z = decide (z < 0) := by
  unfold sgZ
  rw [capd_of h]
  by_cases hz : z < 0
  · have : 0 < (dig z.natAbs).length := dig_pos_len (by omega)
    simp [hz, this]
  · simp [hz]
theorem magZ_small {z : Int} (h : z.natAbs < 1000000000 ^ 60) : magZ z = dig z.natAbs := capd_of h
theorem cmpS_cmpZ {a b : Int} : cmpS (decide (a < 0)) (decide (b < 0)) a.natAbs b.natAbs = cmpZ a b := by
  unfold cmpS cmpZ sgn
  by_cases ha : a < 0 <;> by_cases hb : b < 0 <;> simp [ha, hb] <;> (repeat' split) <;> omega
theorem cmpZ_swap (a b : Int) : cmpZ b a = -(cmpZ a b) := by
  unfold cmpZ
  (repeat' split) <;> omega
theorem pow_mul_lt {a b i j k : Nat} (ha : a < 1000000000 ^ i) (hb : b < 1000000000 ^ j) (h : i + j ≤ k) : a * b < 1000000000 ^ k := by
  have h1 : a * b < 1000000000 ^ i * 1000000000 ^ j := Nat.mul_lt_mul'' ha hb
  rw [← Nat.pow_add] at h1
  exact Nat.lt_of_lt_of_le h1 (Nat.pow_le_pow_right (by decide) h)
theorem pow_up {a i k : Nat} (ha : a < 1000000000 ^ i) (h : i ≤ k) : a < 1000000000 ^ k := Nat.lt_of_lt_of_le ha (Nat.pow_le_pow_right (by decide) h)
theorem pow_add_lt {a b i k : Nat} (ha : a < 1000000000 ^ i) (hb : b < 1000000000 ^ i) (h : i + 1 ≤ k) : a + b < 1000000000 ^ k := by
  have h2 : 1000000000 ^ i * 1000000000 ≤ 1000000000 ^ k := by rw [← Nat.pow_succ]; exact Nat.pow_le_pow_right (by decide) h
  obtain ⟨P, hP⟩ : ∃ P, 1000000000 ^ i = P := ⟨_, rfl⟩
  obtain ⟨Q, hQ⟩ : ∃ Q, 1000000000 ^ k = Q := ⟨_, rfl⟩
  rw [hP] at ha hb h2
  rw [hQ] at h2 ⊢
  omega
theorem val_lt_24 {ds : List Nat} (h : Canon ds) (hl : ds.length ≤ 24) : val ds < 1000000000 ^ 24 := pow_up (val_lt h.1) hl
theorem abs_mul (s : Bool) (a b : Nat) : (signed s a * (b : Int)).natAbs = a * b := by rw [Int.natAbs_mul, signed_abs]; rfl
/-- The sum's numerator and the product's are far below the limit of MaxLimbs. -/
theorem abs_add_le (x y : Int) : (x + y).natAbs ≤ x.natAbs + y.natAbs := Int.natAbs_add_le x y
theorem abs_sub_le (x y : Int) : (x - y).natAbs ≤ x.natAbs + y.natAbs := by omega
theorem signed_z (s : Bool) (a b : Nat) : signed s (a * b) = signed s a * (b : Int) := by cases s <;> simp [signed, Int.neg_mul]
theorem gcd_one {a b : Nat} (h : Nat.gcd a b = 1) : a / Nat.gcd a b = a ∧ b / Nat.gcd a b = b := by rw [h]; simp
theorem okL_bound {a b : Nat} (h0 : 0 < b) (ha : (dig a).length ≤ 24) (hb : (dig b).length ≤ 24) : okL a b = true := by
  have h1 : (dig (a / Nat.gcd a b)).length ≤ 24 := dig_len (Nat.lt_of_le_of_lt (Nat.div_le_self _ _) (dig_len_iff.mp ha))
  have h2 : (dig (b / Nat.gcd a b)).length ≤ 24 := dig_len (Nat.lt_of_le_of_lt (Nat.div_le_self _ _) (dig_len_iff.mp hb))
  unfold okL
  simp [h1, h2]
  omega
theorem signed_len (s : Bool) (ds : List Nat) : signed (s && decide (0 < ds.length)) (val ds) = signed s (val ds) := by
  cases ds with
  | nil => cases s <;> simp [signed, val]
  | cons x r => simp
theorem mul_small {ds gs : List Nat} (h1 : Canon ds) (l1 : ds.length ≤ 24) (h2 : Canon gs) (l2 : gs.length ≤ 24) : val ds * val gs < 1000000000 ^ 48 := pow_mul_lt (val_lt_24 h1 l1) (val_lt_24 h2 l2) (by decide)
theorem mul_len {ds gs : List Nat} (h1 : Canon ds) (l1 : ds.length ≤ 24) (h2 : Canon gs) (l2 : gs.length ≤ 24) : (dig (val ds * val gs)).length ≤ 60 := Nat.le_trans (dig_len (mul_small h1 l1 h2 l2)) (by decide)
theorem add_small {s t : Bool} {ds bs es gs : List Nat} (hv : Valid ds bs) (hv2 : Valid es gs) : (signed s (val ds) * (val gs : Int) + signed t (val es) * (val bs : Int)).natAbs < 1000000000 ^ 60 := by
  refine Nat.lt_of_le_of_lt (abs_add_le _ _) ?_
  rw [abs_mul, abs_mul]
  exact pow_add_lt (mul_small hv.1 hv.2.2.1 hv2.2.1 hv2.2.2.2.1) (mul_small hv2.1 hv2.2.2.1 hv.2.1 hv.2.2.2.1) (by decide)
theorem sub_small {s t : Bool} {ds bs es gs : List Nat} (hv : Valid ds bs) (hv2 : Valid es gs) : (signed s (val ds) * (val gs : Int) - signed t (val es) * (val bs : Int)).natAbs < 1000000000 ^ 60 := by
  refine Nat.lt_of_le_of_lt (abs_sub_le _ _) ?_
  rw [abs_mul, abs_mul]
  exact pow_add_lt (mul_small hv.1 hv.2.2.1 hv2.2.1 hv2.2.2.2.1) (mul_small hv2.1 hv2.2.2.1 hv.2.1 hv.2.2.2.1) (by decide)
theorem one_small {s : Bool} {ds gs : List Nat} (h1 : Canon ds) (l1 : ds.length ≤ 24) (h2 : Canon gs) (l2 : gs.length ≤ 24) : (signed s (val ds) * (val gs : Int)).natAbs < 1000000000 ^ 60 := by
  rw [abs_mul]
  exact pow_up (mul_small h1 l1 h2 l2) (by decide)
/-- A numerator and a denominator within MaxRat limbs, the denominator 0 let in. -/
def Half (ds bs : List Nat) : Prop := Canon ds ∧ Canon bs ∧ ds.length ≤ 24 ∧ bs.length ≤ 24 ∧ True
/-- A fraction, or what a method of the program takes for one: the zero value too. -/
def Semi (s : Bool) (xs ys : List Int) : Prop := okB s xs = true ∧ okI ys = true ∧ True ∧ ys.length ≤ 24 ∧ xs.length ≤ 24 ∧ True
theorem semi_ok {s : Bool} {xs ys : List Int} (h : okR s xs ys = true) : Semi s xs ys := by
  obtain ⟨h1, h2, h3, h4, h5, h6⟩ := okR_parts h
  exact ⟨h1, h2, trivial, h4, h5, trivial⟩
theorem semi_zero : Semi false [] [] := by refine ⟨by simp [okB, okI], by simp [okI], trivial, by simp, by simp, trivial⟩
theorem Semi.parts {s : Bool} {xs ys : List Int} (h : Semi s xs ys) : okB s xs = true ∧ okI ys = true ∧ True ∧ ys.length ≤ 24 ∧ xs.length ≤ 24 ∧ True := h
theorem Semi.nats {s : Bool} {xs ys : List Int} (h : Semi s xs ys) : ints xs = Go.Proofs.Ytdilbhkdkppodaa.nats (toN xs) ∧ ints ys = Go.Proofs.Ytdilbhkdkppodaa.nats (toN ys) ∧ Half (toN xs) (toN ys) := by
  obtain ⟨h1, h2, h3, h4, h5, h6⟩ := h
  obtain ⟨a1, a2, a3⟩ := okI_nats (okB_ok h1)
  obtain ⟨b1, b2, b3⟩ := okI_nats h2
  exact ⟨a1, b1, a2, b2, by rw [toN_len]; exact h5, by rw [toN_len]; exact h4, trivial⟩
theorem add_small0 {s t : Bool} {ds bs es gs : List Nat} (hv : Half ds bs) (hv2 : Half es gs) : (signed s (val ds) * (val gs : Int) + signed t (val es) * (val bs : Int)).natAbs < 1000000000 ^ 60 := by
  refine Nat.lt_of_le_of_lt (abs_add_le _ _) ?_
  rw [abs_mul, abs_mul]
  exact pow_add_lt (mul_small hv.1 hv.2.2.1 hv2.2.1 hv2.2.2.2.1) (mul_small hv2.1 hv2.2.2.1 hv.2.1 hv.2.2.2.1) (by decide)
theorem sub_small0 {s t : Bool} {ds bs es gs : List Nat} (hv : Half ds bs) (hv2 : Half es gs) : (signed s (val ds) * (val gs : Int) - signed t (val es) * (val bs : Int)).natAbs < 1000000000 ^ 60 := by
  refine Nat.lt_of_le_of_lt (abs_sub_le _ _) ?_
  rw [abs_mul, abs_mul]
  exact pow_add_lt (mul_small hv.1 hv.2.2.1 hv2.2.1 hv2.2.2.2.1) (mul_small hv2.1 hv2.2.2.1 hv.2.1 hv.2.2.2.1) (by decide)
theorem one_row (u : World) (t : TypeId) : Arg (u.alloc (.cells #[.int .i64 1] t)) (some ⟨u.heap.size, 0, none⟩) 1 1 (nats [1]) := by
  refine ⟨⟨rfl, fun _ => ⟨u.heap.size, 0, rfl, by simp, fun k hk => ?_⟩⟩, by decide, by unfold maxLen; decide, by simp⟩
  obtain rfl : k = 0 := by omega
  simp [go_sem, nats, ints]
theorem isOne_yes {ds : List Nat} (h : isOne ds = true) : ds = [1] := by unfold isOne at h; exact of_decide_eq_true h
theorem quoN_yes {xs ys : List Int} (h1 : okI xs = true) (h2 : okI ys = true) : quoN xs ys = dig (val (toN xs) / val (toN ys)) := (divN_yes h1 h2).1
theorem okL_no_zero {a : Nat} : okL a 0 = false := by unfold okL; simp
theorem okL_no_num {a b : Nat} (h : 24 < (dig (a / Nat.gcd a b)).length) : okL a b = false := by
  unfold okL
  have : ¬ (dig (a / Nat.gcd a b)).length ≤ 24 := by omega
  simp [this]
theorem okL_no_den {a b : Nat} (h : 24 < (dig (b / Nat.gcd a b)).length) : okL a b = false := by
  unfold okL
  have : ¬ (dig (b / Nat.gcd a b)).length ≤ 24 := by omega
  simp [this]
theorem okL_yes {a b : Nat} (h0 : b ≠ 0) (h1 : ¬ 24 < (dig (a / Nat.gcd a b)).length) (h2 : ¬ 24 < (dig (b / Nat.gcd a b)).length) : okL a b = true := by
  unfold okL
  have h3 : (dig (a / Nat.gcd a b)).length ≤ 24 := by omega
  have h4 : (dig (b / Nat.gcd a b)).length ≤ 24 := by omega
  simp [h0, h3, h4]
theorem low_none {s : Bool} {a b : Nat} {z : Int} (hz : signed s a = z) (h : okL a b = false) : loS z b = false ∧ loN z b = [] ∧ loD z b = [] := by
  rw [loS_of s hz, loN_of s hz, loD_of s hz, h]
  simp
theorem div_pos_iff (a b : Nat) (h0 : b ≠ 0) : 0 < a / Nat.gcd a b ↔ 0 < a := by
  constructor
  · intro h
    rcases Nat.eq_zero_or_pos a with e | e
    · rw [e] at h; simp at h
    · exact e
  · intro h
    exact Nat.div_pos (Nat.le_of_dvd h (Nat.gcd_dvd_left a b)) (Nat.gcd_pos_of_pos_left b h)
theorem len_pos_iff (a : Nat) : 0 < (dig a).length ↔ 0 < a := by
  constructor
  · intro h
    rcases Nat.eq_zero_or_pos a with e | e
    · rw [e, dig_zero] at h; simp at h
    · exact e
  · exact dig_pos_len
theorem low_some {s : Bool} {a b : Nat} {z : Int} (hz : signed s a = z) (h : okL a b = true) : loS z b = (s && decide (0 < (dig (a / Nat.gcd a b)).length)) ∧ loN z b = dig (a / Nat.gcd a b) ∧ loD z b = dig (b / Nat.gcd a b) := by
  have h0 : b ≠ 0 := by unfold okL at h; simp at h; exact h.1.1
  rw [loS_of s hz, loN_of s hz, loD_of s hz, h]
  have e : decide (0 < a) = decide (0 < (dig (a / Nat.gcd a b)).length) := by
    rw [decide_eq_decide, len_pos_iff, div_pos_iff a b h0]
  simp [e]
theorem low_make {s : Bool} {a b : Nat} {z : Int} (hz : signed s a = z) (h : okL a b = true) : loS z b = sgZ (signed s (a / Nat.gcd a b)) ∧ loN z b = magZ (signed s (a / Nat.gcd a b)) ∧ loD z b = dig (b / Nat.gcd a b) := by
  obtain ⟨h1, h2, h3⟩ := low_some hz h
  have hl : (dig (a / Nat.gcd a b)).length ≤ 24 := by unfold okL at h; simp at h; exact h.1.2
  have hc : capd (a / Nat.gcd a b) = dig (a / Nat.gcd a b) := capd_of (pow_up (dig_len_iff.mp hl) (by decide))
  refine ⟨?_, ?_, h3⟩
  · rw [h1, sgZ_signed, hc]
  · rw [h2, magZ_signed, hc]
theorem Arg.trim {w : World} {A : Option Addr} {n c : Nat} {ds : List Nat} (h : Arg w A n c (nats ds)) (hd : Digs ds) : Arg w A (dig (val ds)).length c (nats (dig (val ds))) := by
  have h3 := dig_le_len hd
  have h4 := h.nlen
  have hcut := h.1.take (m := (dig (val ds)).length) (by omega)
  rw [nats_take, take_dig hd] at hcut
  exact ⟨hcut, by have := h.2.1; omega, h.2.2.1, h.2.2.2⟩
theorem Arg.same {w : World} {A : Option Addr} {n c : Nat} {X Y : List Value} (h : Arg w A n c X) (e : X = Y) : Arg w A n c Y := e ▸ h
/-- A row joined to an empty one lies in new memory. -/
theorem appended {u u1 : World} {o : Obj} {v : Value} {k : Nat} {X : List Value} (hown : u1.ownsRow u.heap.size 3 1 v k X) (hg : (u.alloc o).grownBy u1 (some u.heap.size)) : OwnV u1 u.heap.size 3 v X ∧ Below u.heap.size u u1 :=
  ⟨OwnV.of_own hown, ((Below.refl u.heap.size u).alloc (Nat.le_refl _) o).grown hg (by simp) (fun k hk => by have e9 : u.heap.size = k := Option.some.inj hk; omega)⟩
end Go.Proofs.Ytdilbhkdkppodaa
