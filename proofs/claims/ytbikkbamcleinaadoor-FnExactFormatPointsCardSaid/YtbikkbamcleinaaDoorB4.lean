/- Joined: XBig XBigMake XBigCmp XBigAdd XBigOf XRatMath XStore XRatNeg XRatEq. Conditions: none. -/
import Derived.Test.YtbikkbamcleinaaDoorProg
import Derived.Test.YtbikkbamcleinaaDoorB2
import Derived.Test.YtbikkbamcleinaaDoorB1
import Derived.Test.YtbikkbamcleinaaDoorB3
import Derived.Deep.DeepCutAuto
namespace Go.Proofs.YtbikkbamcleinaaDoor
open Go.RowKit Nt
set_option linter.unusedVariables false

/-- A natural number with a sign. -/
def signed (s : Bool) (v : Nat) : Int := if s then -(v : Int) else (v : Int)
/-- Is it a big integer? -/
def okB (s : Bool) (xs : List Int) : Bool := okI xs && (!s || decide (0 < xs.length))
/-- The number that a big integer is. -/
def zOf (s : Bool) (xs : List Int) : Int := signed s (val (toN xs))
/-- The limbs and the sign of a number as a result. -/
def magZ (z : Int) : List Nat := capd z.natAbs
def sgZ (z : Int) : Bool := decide (z < 0) && decide (0 < (capd z.natAbs).length)
/-- A result where the arguments are valid, else the zero value. -/
def resS (ok : Bool) (z : Int) : Bool := ok && sgZ z
def resM (ok : Bool) (z : Int) : List Nat := if ok = true then magZ z else []
theorem resM_len (ok : Bool) (z : Int) : (resM ok z).length ≤ 60 := by unfold resM; split; exact capd_len _; simp
theorem signed_abs (s : Bool) (v : Nat) : (signed s v).natAbs = v := by cases s <;> simp [signed]
theorem capd_zero : capd 0 = [] := by rw [capd_of (Nat.pow_pos (by decide))]; unfold dig; simp
theorem sgZ_signed (s : Bool) (v : Nat) : sgZ (signed s v) = (s && decide (0 < (capd v).length)) := by
  unfold sgZ
  rw [signed_abs]
  cases s with
  | false =>
    have : ¬ signed false v < 0 := by simp [signed]
    simp [this]
  | true =>
    by_cases h : v = 0
    · subst h; simp [capd_zero]
    · have : signed true v < 0 := by simp [signed]; omega
      simp [this]
theorem magZ_signed (s : Bool) (v : Nat) : magZ (signed s v) = capd v := by unfold magZ; rw [signed_abs]
theorem signed_neg (s : Bool) (v : Nat) : signed (!s) v = - signed s v := by cases s <;> simp [signed]
theorem signed_add (s : Bool) (a b : Nat) : signed s (a + b) = signed s a + signed s b := by cases s <;> simp [signed]; omega
theorem signed_sub (s : Bool) (a b : Nat) (h : b ≤ a) : signed s (a - b) = signed s a + signed (!s) b := by cases s <;> simp [signed] <;> omega
theorem signed_mul (s t : Bool) (a b : Nat) : signed (s != t) (a * b) = signed s a * signed t b := by cases s <;> cases t <;> simp [signed, Int.neg_mul, Int.mul_neg]
theorem back_z {z : Int} (h : z.natAbs < 1000000000 ^ 60) : signed (sgZ z) (val (magZ z)) = z := by
  have e : magZ z = dig z.natAbs := capd_of h
  rw [e, val_dig]
  unfold sgZ
  rw [capd_of h]
  by_cases hz : z < 0
  · have hl : 0 < (dig z.natAbs).length := by
      rcases Nat.eq_zero_or_pos (dig z.natAbs).length with h0 | h0
      · have h1 := val_dig z.natAbs
        rw [List.eq_nil_of_length_eq_zero h0] at h1
        simp [val] at h1
        omega
      · exact h0
    simp [hz, hl, signed]
    omega
  · simp [hz, signed]
    omega
theorem magZ_can (z : Int) : Canon (magZ z) := by
  unfold magZ capd
  split
  · exact dig_can _
  · exact ⟨by simp [Digs], by simp⟩
theorem okB_val {s : Bool} {xs : List Int} (h : okB s xs = true) : val (toN xs) < 1000000000 ^ 60 := by
  have h1 : okI xs = true := by unfold okB at h; simp at h; exact h.1
  obtain ⟨_, h2, h3⟩ := okI_nats h1
  exact Nat.lt_of_lt_of_le (val_lt h2.1) (Nat.pow_le_pow_right (by decide) h3)
theorem okB_abs {s : Bool} {xs : List Int} (h : okB s xs = true) : (zOf s xs).natAbs < 1000000000 ^ 60 := by
  unfold zOf; rw [signed_abs]; exact okB_val h
theorem okB_ok {s : Bool} {xs : List Int} (h : okB s xs = true) : okI xs = true := by unfold okB at h; simp at h; exact h.1
theorem okB_len {xs : List Int} (h : okB true xs = true) : 0 < xs.length := by unfold okB at h; simp at h; exact h.2
set_option maxRecDepth 100000 in
set_option maxHeartbeats 1000000 in
theorem bigIntOk_spec (s : Bool) (A : Option Addr) (n c : Nat) (xs : List Int) (w : World) (hA : VRow w A n (ints xs)) (hn : n ≤ maxLen) :
    Calls Tryd.prog 35 #[.agg #[.bool s, .slice A n c]] w fun e w' => e = .returned (.bool (okB s xs)) ∧ Below w.heap.size w w' := by
  have HA := Lib.hid hA
  have hl : xs.length = n := by simpa [ints] using hA.1
  have HOK := Lib.hid (show okB s xs = (okI xs && (!s || decide (0 < n))) by rw [← hl]; rfl)
  have hn2 : n ≤ 9223372036854775807 := by unfold maxLen at hn; omega
  have HN := Lib.hid hn
  clear hA hl hn
  go_enter Tryd.func35, Tryd.ntmps35
  have HW := Lib.hid ((Below.refl w.heap.size w).alloc (Nat.le_refl _) (.cells #[.bool s, .slice A n c] 38))
  go_wp2_with fail
  refine (natOk_spec A n c xs _ (HA.out.below HW.out (Nat.le_refl _)) HN.out).mono ?_
  rintro e w1 ⟨rfl, hb⟩
  have hc0 : w1.cell? ⟨w.heap.size, 0, none⟩ = some (.bool s) := by rw [hb.cell (by simp)]; simp [go_sem]
  have hc1 : w1.cell? ⟨w.heap.size, 1, none⟩ = some (.slice A n c) := by rw [hb.cell (by simp)]; simp [go_sem]
  have HB := Lib.hid (HW.out.trans (hb.mono (by simp)))
  clear hb
  obtain ⟨b, hbb⟩ : ∃ b, okI xs = b := ⟨_, rfl⟩
  have HBB := Lib.hid hbb
  rw [hbb]
  clear hbb
  cases b <;> cases s
  all_goals
    by_cases h0 : 0 < n
  all_goals
    (go_wp2; go_ret; exact ⟨by rw [HOK.out, HBB.out]; simp [h0], HB.out⟩)
set_option maxRecDepth 100000 in
set_option maxHeartbeats 1000000 in
theorem isNatural_any (A : Option Addr) (n c : Nat) (xs : List Int) (w : World) (hA : VRow w A n (ints xs)) (hn : n ≤ maxLen) :
    Calls Tryd.prog 60 #[.slice A n c] w (fun e w' => e = .returned (.bool (okI xs)) ∧ Below w.heap.size w w') := by
  have HA := Lib.hid hA
  have HN := Lib.hid hn
  clear hA hn
  go_enter Tryd.func60, Tryd.ntmps60
  go_wp2_with fail
  refine (natOk_impl A n c xs _ HA.out HN.out).mono ?_
  rintro e w1 ⟨rfl, hb⟩
  have HB1 := Lib.hid hb
  clear hb
  go_wp2
  go_ret
  exact ⟨rfl, HB1.out⟩
set_option maxRecDepth 100000 in
set_option maxHeartbeats 1000000 in
theorem isZero_any (A : Option Addr) (n c : Nat) (w : World) (hn : n ≤ 9223372036854775807) :
    Calls Tryd.prog 61 #[.slice A n c] w fun e w' => e = .returned (.bool (decide (n = 0))) ∧ w' = w := by
  go_enter Tryd.func61, Tryd.ntmps61
  go_wp2
  go_ret
  exact ⟨by by_cases h : n = 0 <;> simp [h], rfl⟩
set_option maxRecDepth 100000 in
set_option maxHeartbeats 1000000 in
theorem signedOf_any (s : Bool) (A : Option Addr) (n c : Nat) (w : World) :
    Calls Tryd.prog 44 #[.agg #[.bool s, .slice A n c]] w fun e w' => e = .returned (.agg #[.slice A n c, .bool s]) ∧ Below w.heap.size w w' := by
  go_enter Tryd.func44, Tryd.ntmps44
  go_wp2
  refine bodyPost_ret (v := .agg #[.slice A n c, .bool s]) (by simp [results, Tryd.results44, go_sem]) rfl ⟨rfl, ?_⟩
  exact ((Below.refl w.heap.size w).alloc (Nat.le_refl _) _).alloc (by simp) _
set_option maxRecDepth 100000 in
set_option maxHeartbeats 1000000 in
theorem signedOf_at (s : Bool) (A : Option Addr) (n c : Nat) (w : World) :
    Calls Tryd.prog 44 #[.agg #[.bool s, .slice A n c]] w fun e w' => e = .returned (.agg #[.slice A n c, .bool s]) ∧ w' = ((w.alloc (.cells #[.bool s, .slice A n c] 38)).alloc (.cells #[.slice A n c, .bool s] 68)) := by
  go_enter Tryd.func44, Tryd.ntmps44
  go_wp2
  exact bodyPost_ret (v := .agg #[.slice A n c, .bool s]) (by simp [results, Tryd.results44, go_sem]) rfl ⟨rfl, rfl⟩
set_option maxRecDepth 100000 in
set_option maxHeartbeats 1000000 in
theorem isValid_any (s : Bool) (A : Option Addr) (n c : Nat) (xs : List Int) (w : World) (hA : VRow w A n (ints xs)) (hn : n ≤ maxLen) :
    Calls Tryd.prog 45 #[.agg #[.slice A n c, .bool s]] w fun e w' => e = .returned (.bool (okB s xs)) ∧ Below w.heap.size w w' := by
  have HA := Lib.hid hA
  have hl : xs.length = n := by simpa [ints] using hA.1
  have HOK := Lib.hid (show okB s xs = (okI xs && (!s || decide (0 < n))) by rw [← hl]; rfl)
  have hn2 : n ≤ 9223372036854775807 := by unfold maxLen at hn; omega
  have HN := Lib.hid hn
  clear hA hl hn
  go_enter Tryd.func45, Tryd.ntmps45
  have HW := Lib.hid ((Below.refl w.heap.size w).alloc (Nat.le_refl _) (.cells #[.slice A n c, .bool s] 68))
  go_wp2_with fail
  refine (isNatural_any A n c xs _ (HA.out.below HW.out (Nat.le_refl _)) HN.out).mono ?_
  rintro e w1 ⟨rfl, hb⟩
  have hc0 : w1.cell? ⟨w.heap.size, 0, none⟩ = some (.slice A n c) := by rw [hb.cell (by simp)]; simp [go_sem]
  have hc1 : w1.cell? ⟨w.heap.size, 1, none⟩ = some (.bool s) := by rw [hb.cell (by simp)]; simp [go_sem]
  have HB := Lib.hid (HW.out.trans (hb.mono (by simp)))
  clear hb
  obtain ⟨b, hbb⟩ : ∃ b, okI xs = b := ⟨_, rfl⟩
  have HBB := Lib.hid hbb
  rw [hbb]
  clear hbb
  by_cases h0 : n = 0
  all_goals cases b <;> cases s
  all_goals
    (go_wp2_with (go_at_call 61; refine (isZero_any A _ c _ (by omega)).mono ?_; rintro e w2 ⟨rfl, rfl⟩); go_ret; exact ⟨by rw [HOK.out, HBB.out]; first | (simp; done) | (simp; omega), HB.out⟩)
set_option maxRecDepth 100000 in
set_option maxHeartbeats 1000000 in
theorem bigIntOk_impl (s : Bool) (A : Option Addr) (n c : Nat) (xs : List Int) (w : World) (hA : VRow w A n (ints xs)) (hn : n ≤ maxLen) :
    Calls Tryd.prog 41 #[.agg #[.bool s, .slice A n c]] w fun e w' => e = .returned (.bool (okB s xs)) ∧ Below w.heap.size w w' := by
  have HA := Lib.hid hA
  have HN := Lib.hid hn
  clear hA hn
  go_enter Tryd.func41, Tryd.ntmps41
  have HW := Lib.hid ((Below.refl w.heap.size w).alloc (Nat.le_refl _) (.cells #[.bool s, .slice A n c] 38))
  go_wp2_with fail
  refine (signedOf_any s A n c _).mono ?_
  rintro e w1 ⟨rfl, hb⟩
  have HB := Lib.hid (HW.out.trans (hb.mono HW.out.size))
  clear hb
  go_wp2_with fail
  refine (isValid_any s A n c xs _ (HA.out.below HB.out (Nat.le_refl _)) HN.out).mono ?_
  rintro e w2 ⟨rfl, hb⟩
  have HB2 := Lib.hid (HB.out.trans (hb.mono HB.out.size))
  clear hb
  go_wp2
  go_ret
  exact ⟨rfl, HB2.out⟩
end Go.Proofs.YtbikkbamcleinaaDoor
namespace Go.Proofs.YtbikkbamcleinaaDoor
open Go.RowKit Nt
set_option linter.unusedVariables false

theorem VRow.take {w : World} {A : Option Addr} {n m : Nat} {xs : List Value} (h : VRow w A n xs) (hm : m ≤ n) : VRow w A m (xs.take m) := by
  refine ⟨by have := h.1; simp; omega, fun h0 => ?_⟩
  obtain ⟨g, o, e, hg, hc⟩ := h.2 (by omega)
  refine ⟨g, o, e, hg, fun k hk => ?_⟩
  rw [hc k (by omega), List.getElem?_take_of_lt hk]
end Go.Proofs.YtbikkbamcleinaaDoor
namespace Go.Proofs.YtbikkbamcleinaaDoor
open Go.RowKit Nt
set_option linter.unusedVariables false

/-- How two numbers with signs compare. -/
def cmpS (s t : Bool) (a b : Nat) : Int := if s = true ∧ t = false then -1 else if s = false ∧ t = true then 1 else if s = true then sgn b a else sgn a b
/-- What BigIntCmp answers. -/
def cmpB (s t : Bool) (xs ys : List Int) : Int := if okB s xs = true ∧ okB t ys = true then cmpS s t (val (toN xs)) (val (toN ys)) else 0
theorem cmpB_yes {s t : Bool} {xs ys : List Int} (h1 : okB s xs = true) (h2 : okB t ys = true) : cmpB s t xs ys = cmpS s t (val (toN xs)) (val (toN ys)) := if_pos ⟨h1, h2⟩
theorem cmpB_no {s t : Bool} {xs ys : List Int} (h : okB s xs = false ∨ okB t ys = false) : cmpB s t xs ys = 0 := if_neg (by rintro ⟨h1, h2⟩; rcases h with h | h <;> simp_all)
theorem below_al2 {w u : World} {o : Obj} (h : Below w.heap.size w u) : Below w.heap.size w (u.alloc o) := h.alloc h.size o
end Go.Proofs.YtbikkbamcleinaaDoor
namespace Go.Proofs.YtbikkbamcleinaaDoor
open Go.RowKit Nt
set_option linter.unusedVariables false

end Go.Proofs.YtbikkbamcleinaaDoor
namespace Go.Proofs.YtbikkbamcleinaaDoor
open Go.RowKit Nt
set_option linter.unusedVariables false

theorem int_small {z : Int} (h : -9223372036854775808 ≤ z ∧ z ≤ 9223372036854775807) : z.natAbs < 1000000000 ^ 60 := by
  have h1 : z.natAbs < 1000000000 ^ 4 := by omega
  exact Nat.lt_of_lt_of_le h1 (Nat.pow_le_pow_right (by decide) (by decide))
theorem least_row (w : World) (t : TypeId) : VRow (w.alloc (.cells #[.int .i64 854775808, .int .i64 223372036, .int .i64 9] t)) (some ⟨w.heap.size, 0, none⟩) 3 (nats [854775808, 223372036, 9]) := by
  refine ⟨rfl, fun _ => ⟨w.heap.size, 0, rfl, by simp, fun k hk => ?_⟩⟩
  match k, hk with
  | 0, _ => simp [go_sem, nats, ints]
  | 1, _ => simp [go_sem, nats, ints]
  | 2, _ => simp [go_sem, nats, ints]
theorem least_val : signed true (val [854775808, 223372036, 9]) = -9223372036854775808 := by simp [signed, val]
theorem least_digs : Digs [854775808, 223372036, 9] := by intro d hd; simp at hd; omega
end Go.Proofs.YtbikkbamcleinaaDoor
namespace Go.Proofs.YtbikkbamcleinaaDoor
open Go.RowKit Nt
set_option linter.unusedVariables false

/-- A row that a function may be given: it reads as X; its capacity is in order. -/
def Arg (w : World) (A : Option Addr) (n c : Nat) (X : List Value) : Prop := VRow w A n X ∧ n ≤ c ∧ c ≤ maxLen ∧ (A = none → c = 0)
theorem Arg.below {w w' : World} {B : Nat} {A : Option Addr} {n c : Nat} {X : List Value} (h : Arg w A n c X) (hb : Below B w w') (hB : w.heap.size ≤ B) : Arg w' A n c X := ⟨h.1.below hb hB, h.2⟩
theorem Arg.max {w : World} {A : Option Addr} {n c : Nat} {X : List Value} (h : Arg w A n c X) : n ≤ maxLen := Nat.le_trans h.2.1 h.2.2.1
theorem OwnV.arg {w : World} {base : Nat} {e : TypeId} {A : Option Addr} {n c : Nat} {X : List Value} (h : OwnV w base e (.slice A n c) X) : Arg w A n c X := ⟨h.row, h.cap.1, h.cap.2, h.nil_cap⟩
theorem Arg.ilen {w : World} {A : Option Addr} {n c : Nat} {xs : List Int} (h : Arg w A n c (ints xs)) : xs.length = n := by simpa [ints] using h.1.1
theorem Arg.nlen {w : World} {A : Option Addr} {n c : Nat} {ds : List Nat} (h : Arg w A n c (nats ds)) : ds.length = n := by simpa [nats_len] using h.1.1
/-- A numerator and a denominator within MaxRat limbs. -/
def Valid (ds bs : List Nat) : Prop := Canon ds ∧ Canon bs ∧ ds.length ≤ 24 ∧ bs.length ≤ 24 ∧ 0 < bs.length
/-- Is it a fraction? -/
def okR (s : Bool) (xs ys : List Int) : Bool := okB s xs && okI ys && decide (0 < ys.length) && decide (ys.length ≤ 24) && decide (xs.length ≤ 24) && decide (Nat.gcd (val (toN xs)) (val (toN ys)) = 1)
/-- Is a / b, in lowest terms, within MaxRat limbs? -/
def okL (a b : Nat) : Bool := decide (b ≠ 0) && decide ((dig (a / Nat.gcd a b)).length ≤ 24) && decide ((dig (b / Nat.gcd a b)).length ≤ 24)
/-- z / b in lowest terms, or the zero value: sign, numerator, denominator. -/
def loS (z : Int) (b : Nat) : Bool := okL z.natAbs b && decide (z < 0)
def loN (z : Int) (b : Nat) : List Nat := if okL z.natAbs b = true then dig (z.natAbs / Nat.gcd z.natAbs b) else []
def loD (z : Int) (b : Nat) : List Nat := if okL z.natAbs b = true then dig (b / Nat.gcd z.natAbs b) else []
/-- The same where the arguments are valid, else the zero value. -/
def rtS (ok : Bool) (z : Int) (b : Nat) : Bool := ok && loS z b
def rtN (ok : Bool) (z : Int) (b : Nat) : List Nat := if ok = true then loN z b else []
def rtD (ok : Bool) (z : Int) (b : Nat) : List Nat := if ok = true then loD z b else []
theorem rtS_yes {ok : Bool} {z : Int} {b : Nat} (h : ok = true) : rtS ok z b = loS z b := by unfold rtS; rw [h]; rfl
theorem rtN_yes {ok : Bool} {z : Int} {b : Nat} (h : ok = true) : rtN ok z b = loN z b := if_pos h
theorem rtD_yes {ok : Bool} {z : Int} {b : Nat} (h : ok = true) : rtD ok z b = loD z b := if_pos h
theorem rtS_no {ok : Bool} {z : Int} {b : Nat} (h : ok = false) : rtS ok z b = false := by unfold rtS; rw [h]; rfl
theorem rtN_no {ok : Bool} {z : Int} {b : Nat} (h : ok = false) : rtN ok z b = [] := by unfold rtN; rw [h]; rfl
theorem rtD_no {ok : Bool} {z : Int} {b : Nat} (h : ok = false) : rtD ok z b = [] := by unfold rtD; rw [h]; rfl
theorem loN_len (z : Int) (b : Nat) : (loN z b).length ≤ 24 := by
  unfold loN
  split
  · next h => unfold okL at h; simp at h; exact h.1.2
  · simp
theorem loD_len (z : Int) (b : Nat) : (loD z b).length ≤ 24 := by
  unfold loD
  split
  · next h => unfold okL at h; simp at h; exact h.2
  · simp
theorem rtN_len (ok : Bool) (z : Int) (b : Nat) : (rtN ok z b).length ≤ 24 := by unfold rtN; split; exact loN_len _ _; simp
theorem rtD_len (ok : Bool) (z : Int) (b : Nat) : (rtD ok z b).length ≤ 24 := by unfold rtD; split; exact loD_len _ _; simp
theorem okR_parts {s : Bool} {xs ys : List Int} (h : okR s xs ys = true) : okB s xs = true ∧ okI ys = true ∧ 0 < ys.length ∧ ys.length ≤ 24 ∧ xs.length ≤ 24 ∧ Nat.gcd (val (toN xs)) (val (toN ys)) = 1 := by
  unfold okR at h
  simp at h
  exact ⟨h.1.1.1.1.1, h.1.1.1.1.2, h.1.1.1.2, h.1.1.2, h.1.2, h.2⟩
theorem okR_nats {s : Bool} {xs ys : List Int} (h : okR s xs ys = true) : ints xs = nats (toN xs) ∧ ints ys = nats (toN ys) ∧ Valid (toN xs) (toN ys) := by
  obtain ⟨h1, h2, h3, h4, h5, h6⟩ := okR_parts h
  obtain ⟨a1, a2, a3⟩ := okI_nats (okB_ok h1)
  obtain ⟨b1, b2, b3⟩ := okI_nats h2
  exact ⟨a1, b1, a2, b2, by rw [toN_len]; exact h5, by rw [toN_len]; exact h4, by rw [toN_len]; exact h3⟩
theorem dig_one : dig 1 = [1] := by
  have h : Canon [1] := ⟨by intro d hd; simp at hd; subst hd; decide, by simp⟩
  have := dig_of_can h
  simpa [val] using this
/-- Is the row the number 1? -/
def isOne (ds : List Nat) : Bool := decide (ds = [1])
theorem isOne_val {ds : List Nat} (h : Canon ds) : isOne ds = decide (val ds = 1) := by
  unfold isOne
  by_cases e : ds = [1]
  · subst e; simp [val]
  · have : val ds ≠ 1 := by
      intro h1
      apply e
      rw [← dig_of_can h, h1, dig_one]
    simp [e, this]
theorem isOne_dig (a : Nat) : isOne (dig a) = decide (a = 1) := by rw [isOne_val (dig_can a), val_dig]
theorem val_pos {ds : List Nat} (h : Canon ds) (hl : 0 < ds.length) : 0 < val ds := by
  rcases Nat.eq_zero_or_pos (val ds) with h0 | h0
  · have h1 := dig_of_can h
    rw [h0, dig_zero] at h1
    rw [← h1] at hl
    simp at hl
  · exact h0
theorem dig_pos_len {a : Nat} (h : 0 < a) : 0 < (dig a).length := by
  rcases Nat.eq_zero_or_pos (dig a).length with h0 | h0
  · have h1 := val_dig a
    rw [List.eq_nil_of_length_eq_zero h0] at h1
    simp [val] at h1
    omega
  · exact h0
theorem len_lt_of {a k : Nat} (h : a < 1000000000 ^ k) : (dig a).length ≤ k := dig_len h
theorem loS_of {z : Int} {b : Nat} (s : Bool) {a : Nat} (hz : signed s a = z) : (loS z b = (okL a b && (s && decide (0 < a)))) := by
  subst hz
  unfold loS
  rw [signed_abs]
  cases s
  · have : ¬ signed false a < 0 := by simp [signed]
    simp [this]
  · by_cases h : 0 < a
    · have : signed true a < 0 := by simp [signed]; omega
      simp [this, h]
    · have : ¬ signed true a < 0 := by simp [signed]; omega
      simp [this, h]
theorem loN_of {z : Int} {b : Nat} (s : Bool) {a : Nat} (hz : signed s a = z) : loN z b = if okL a b = true then dig (a / Nat.gcd a b) else [] := by subst hz; unfold loN; rw [signed_abs]
theorem loD_of {z : Int} {b : Nat} (s : Bool) {a : Nat} (hz : signed s a = z) : loD z b = if okL a b = true then dig (b / Nat.gcd a b) else [] := by subst hz; unfold loD; rw [signed_abs]
/-- How two integers compare. -/
def cmpZ (a b : Int) : Int := if a < b then -1 else if a = b then 0 else 1
theorem sgZ_small {z : Int} (h : z.natAbs < 1000000000 ^ 60) : sgZ z = decide (z < 0) := by
  unfold sgZ
  rw [capd_of h]
  by_cases hz : z < 0
  · have : 0 < (dig z.natAbs).length := dig_pos_len (by omega)
    simp [hz, this]
  · simp [hz]
theorem magZ_small {z : Int} (h : z.natAbs < 1000000000 ^ 60) : magZ z = dig z.natAbs := capd_of h
theorem cmpS_cmpZ {a b : Int} : cmpS (decide (a < 0)) (decide (b < 0)) a.natAbs b.natAbs = cmpZ a b := by
  unfold cmpS cmpZ sgn
  by_cases ha : a < 0 <;> by_cases hb : b < 0 <;> simp [ha, hb] <;> (repeat' split) <;> omega
theorem cmpZ_swap (a b : Int) : cmpZ b a = -(cmpZ a b) := by
  unfold cmpZ
  (repeat' split) <;> omega
theorem pow_mul_lt {a b i j k : Nat} (ha : a < 1000000000 ^ i) (hb : b < 1000000000 ^ j) (h : i + j ≤ k) : a * b < 1000000000 ^ k := by
  have h1 : a * b < 1000000000 ^ i * 1000000000 ^ j := Nat.mul_lt_mul'' ha hb
  rw [← Nat.pow_add] at h1
  exact Nat.lt_of_lt_of_le h1 (Nat.pow_le_pow_right (by decide) h)
theorem pow_up {a i k : Nat} (ha : a < 1000000000 ^ i) (h : i ≤ k) : a < 1000000000 ^ k := Nat.lt_of_lt_of_le ha (Nat.pow_le_pow_right (by decide) h)
theorem pow_add_lt {a b i k : Nat} (ha : a < 1000000000 ^ i) (hb : b < 1000000000 ^ i) (h : i + 1 ≤ k) : a + b < 1000000000 ^ k := by
  have h2 : 1000000000 ^ i * 1000000000 ≤ 1000000000 ^ k := by rw [← Nat.pow_succ]; exact Nat.pow_le_pow_right (by decide) h
  obtain ⟨P, hP⟩ : ∃ P, 1000000000 ^ i = P := ⟨_, rfl⟩
  obtain ⟨Q, hQ⟩ : ∃ Q, 1000000000 ^ k = Q := ⟨_, rfl⟩
  rw [hP] at ha hb h2
  rw [hQ] at h2 ⊢
  omega
theorem val_lt_24 {ds : List Nat} (h : Canon ds) (hl : ds.length ≤ 24) : val ds < 1000000000 ^ 24 := pow_up (val_lt h.1) hl
theorem abs_mul (s : Bool) (a b : Nat) : (signed s a * (b : Int)).natAbs = a * b := by rw [Int.natAbs_mul, signed_abs]; rfl
/-- The sum's numerator and the product's are far below the limit of MaxLimbs. -/
theorem abs_add_le (x y : Int) : (x + y).natAbs ≤ x.natAbs + y.natAbs := Int.natAbs_add_le x y
theorem abs_sub_le (x y : Int) : (x - y).natAbs ≤ x.natAbs + y.natAbs := by omega
theorem signed_z (s : Bool) (a b : Nat) : signed s (a * b) = signed s a * (b : Int) := by cases s <;> simp [signed, Int.neg_mul]
theorem gcd_one {a b : Nat} (h : Nat.gcd a b = 1) : a / Nat.gcd a b = a ∧ b / Nat.gcd a b = b := by rw [h]; simp
theorem okL_bound {a b : Nat} (h0 : 0 < b) (ha : (dig a).length ≤ 24) (hb : (dig b).length ≤ 24) : okL a b = true := by
  have h1 : (dig (a / Nat.gcd a b)).length ≤ 24 := dig_len (Nat.lt_of_le_of_lt (Nat.div_le_self _ _) (dig_len_iff.mp ha))
  have h2 : (dig (b / Nat.gcd a b)).length ≤ 24 := dig_len (Nat.lt_of_le_of_lt (Nat.div_le_self _ _) (dig_len_iff.mp hb))
  unfold okL
  simp [h1, h2]
  omega
theorem signed_len (s : Bool) (ds : List Nat) : signed (s && decide (0 < ds.length)) (val ds) = signed s (val ds) := by
  cases ds with
  | nil => cases s <;> simp [signed, val]
  | cons x r => simp
theorem mul_small {ds gs : List Nat} (h1 : Canon ds) (l1 : ds.length ≤ 24) (h2 : Canon gs) (l2 : gs.length ≤ 24) : val ds * val gs < 1000000000 ^ 48 := pow_mul_lt (val_lt_24 h1 l1) (val_lt_24 h2 l2) (by decide)
theorem mul_len {ds gs : List Nat} (h1 : Canon ds) (l1 : ds.length ≤ 24) (h2 : Canon gs) (l2 : gs.length ≤ 24) : (dig (val ds * val gs)).length ≤ 60 := Nat.le_trans (dig_len (mul_small h1 l1 h2 l2)) (by decide)
theorem add_small {s t : Bool} {ds bs es gs : List Nat} (hv : Valid ds bs) (hv2 : Valid es gs) : (signed s (val ds) * (val gs : Int) + signed t (val es) * (val bs : Int)).natAbs < 1000000000 ^ 60 := by
  refine Nat.lt_of_le_of_lt (abs_add_le _ _) ?_
  rw [abs_mul, abs_mul]
  exact pow_add_lt (mul_small hv.1 hv.2.2.1 hv2.2.1 hv2.2.2.2.1) (mul_small hv2.1 hv2.2.2.1 hv.2.1 hv.2.2.2.1) (by decide)
theorem sub_small {s t : Bool} {ds bs es gs : List Nat} (hv : Valid ds bs) (hv2 : Valid es gs) : (signed s (val ds) * (val gs : Int) - signed t (val es) * (val bs : Int)).natAbs < 1000000000 ^ 60 := by
  refine Nat.lt_of_le_of_lt (abs_sub_le _ _) ?_
  rw [abs_mul, abs_mul]
  exact pow_add_lt (mul_small hv.1 hv.2.2.1 hv2.2.1 hv2.2.2.2.1) (mul_small hv2.1 hv2.2.2.1 hv.2.1 hv.2.2.2.1) (by decide)
theorem one_small {s : Bool} {ds gs : List Nat} (h1 : Canon ds) (l1 : ds.length ≤ 24) (h2 : Canon gs) (l2 : gs.length ≤ 24) : (signed s (val ds) * (val gs : Int)).natAbs < 1000000000 ^ 60 := by
  rw [abs_mul]
  exact pow_up (mul_small h1 l1 h2 l2) (by decide)
/-- A numerator and a denominator within MaxRat limbs, the denominator 0 let in. -/
def Half (ds bs : List Nat) : Prop := Canon ds ∧ Canon bs ∧ ds.length ≤ 24 ∧ bs.length ≤ 24 ∧ True
/-- A fraction, or what a method of the program takes for one: the zero value too. -/
def Semi (s : Bool) (xs ys : List Int) : Prop := okB s xs = true ∧ okI ys = true ∧ True ∧ ys.length ≤ 24 ∧ xs.length ≤ 24 ∧ True
theorem semi_ok {s : Bool} {xs ys : List Int} (h : okR s xs ys = true) : Semi s xs ys := by
  obtain ⟨h1, h2, h3, h4, h5, h6⟩ := okR_parts h
  exact ⟨h1, h2, trivial, h4, h5, trivial⟩
theorem semi_zero : Semi false [] [] := by refine ⟨by simp [okB, okI], by simp [okI], trivial, by simp, by simp, trivial⟩
theorem Semi.parts {s : Bool} {xs ys : List Int} (h : Semi s xs ys) : okB s xs = true ∧ okI ys = true ∧ True ∧ ys.length ≤ 24 ∧ xs.length ≤ 24 ∧ True := h
theorem Semi.nats {s : Bool} {xs ys : List Int} (h : Semi s xs ys) : ints xs = Go.Proofs.YtbikkbamcleinaaDoor.nats (toN xs) ∧ ints ys = Go.Proofs.YtbikkbamcleinaaDoor.nats (toN ys) ∧ Half (toN xs) (toN ys) := by
  obtain ⟨h1, h2, h3, h4, h5, h6⟩ := h
  obtain ⟨a1, a2, a3⟩ := okI_nats (okB_ok h1)
  obtain ⟨b1, b2, b3⟩ := okI_nats h2
  exact ⟨a1, b1, a2, b2, by rw [toN_len]; exact h5, by rw [toN_len]; exact h4, trivial⟩
theorem add_small0 {s t : Bool} {ds bs es gs : List Nat} (hv : Half ds bs) (hv2 : Half es gs) : (signed s (val ds) * (val gs : Int) + signed t (val es) * (val bs : Int)).natAbs < 1000000000 ^ 60 := by
  refine Nat.lt_of_le_of_lt (abs_add_le _ _) ?_
  rw [abs_mul, abs_mul]
  exact pow_add_lt (mul_small hv.1 hv.2.2.1 hv2.2.1 hv2.2.2.2.1) (mul_small hv2.1 hv2.2.2.1 hv.2.1 hv.2.2.2.1) (by decide)
theorem sub_small0 {s t : Bool} {ds bs es gs : List Nat} (hv : Half ds bs) (hv2 : Half es gs) : (signed s (val ds) * (val gs : Int) - signed t (val es) * (val bs : Int)).natAbs < 1000000000 ^ 60 := by
  refine Nat.lt_of_le_of_lt (abs_sub_le _ _) ?_
  rw [abs_mul, abs_mul]
  exact pow_add_lt (mul_small hv.1 hv.2.2.1 hv2.2.1 hv2.2.2.2.1) (mul_small hv2.1 hv2.2.2.1 hv.2.1 hv.2.2.2.1) (by decide)
theorem one_row (u : World) (t : TypeId) : Arg (u.alloc (.cells #[.int .i64 1] t)) (some ⟨u.heap.size, 0, none⟩) 1 1 (nats [1]) := by
  refine ⟨⟨rfl, fun _ => ⟨u.heap.size, 0, rfl, by simp, fun k hk => ?_⟩⟩, by decide, by unfold maxLen; decide, by simp⟩
  obtain rfl : k = 0 := by omega
  simp [go_sem, nats, ints]
theorem isOne_yes {ds : List Nat} (h : isOne ds = true) : ds = [1] := by unfold isOne at h; exact of_decide_eq_true h
theorem quoN_yes {xs ys : List Int} (h1 : okI xs = true) (h2 : okI ys = true) : quoN xs ys = dig (val (toN xs) / val (toN ys)) := (divN_yes h1 h2).1
theorem okL_no_zero {a : Nat} : okL a 0 = false := by unfold okL; simp
theorem okL_no_num {a b : Nat} (h : 24 < (dig (a / Nat.gcd a b)).length) : okL a b = false := by
  unfold okL
  have : ¬ (dig (a / Nat.gcd a b)).length ≤ 24 := by omega
  simp [this]
theorem okL_no_den {a b : Nat} (h : 24 < (dig (b / Nat.gcd a b)).length) : okL a b = false := by
  unfold okL
  have : ¬ (dig (b / Nat.gcd a b)).length ≤ 24 := by omega
  simp [this]
theorem okL_yes {a b : Nat} (h0 : b ≠ 0) (h1 : ¬ 24 < (dig (a / Nat.gcd a b)).length) (h2 : ¬ 24 < (dig (b / Nat.gcd a b)).length) : okL a b = true := by
  unfold okL
  have h3 : (dig (a / Nat.gcd a b)).length ≤ 24 := by omega
  have h4 : (dig (b / Nat.gcd a b)).length ≤ 24 := by omega
  simp [h0, h3, h4]
theorem low_none {s : Bool} {a b : Nat} {z : Int} (hz : signed s a = z) (h : okL a b = false) : loS z b = false ∧ loN z b = [] ∧ loD z b = [] := by
  rw [loS_of s hz, loN_of s hz, loD_of s hz, h]
  simp
theorem div_pos_iff (a b : Nat) (h0 : b ≠ 0) : 0 < a / Nat.gcd a b ↔ 0 < a := by
  constructor
  · intro h
    rcases Nat.eq_zero_or_pos a with e | e
    · rw [e] at h; simp at h
    · exact e
  · intro h
    exact Nat.div_pos (Nat.le_of_dvd h (Nat.gcd_dvd_left a b)) (Nat.gcd_pos_of_pos_left b h)
theorem len_pos_iff (a : Nat) : 0 < (dig a).length ↔ 0 < a := by
  constructor
  · intro h
    rcases Nat.eq_zero_or_pos a with e | e
    · rw [e, dig_zero] at h; simp at h
    · exact e
  · exact dig_pos_len
theorem low_some {s : Bool} {a b : Nat} {z : Int} (hz : signed s a = z) (h : okL a b = true) : loS z b = (s && decide (0 < (dig (a / Nat.gcd a b)).length)) ∧ loN z b = dig (a / Nat.gcd a b) ∧ loD z b = dig (b / Nat.gcd a b) := by
  have h0 : b ≠ 0 := by unfold okL at h; simp at h; exact h.1.1
  rw [loS_of s hz, loN_of s hz, loD_of s hz, h]
  have e : decide (0 < a) = decide (0 < (dig (a / Nat.gcd a b)).length) := by
    rw [decide_eq_decide, len_pos_iff, div_pos_iff a b h0]
  simp [e]
theorem low_make {s : Bool} {a b : Nat} {z : Int} (hz : signed s a = z) (h : okL a b = true) : loS z b = sgZ (signed s (a / Nat.gcd a b)) ∧ loN z b = magZ (signed s (a / Nat.gcd a b)) ∧ loD z b = dig (b / Nat.gcd a b) := by
  obtain ⟨h1, h2, h3⟩ := low_some hz h
  have hl : (dig (a / Nat.gcd a b)).length ≤ 24 := by unfold okL at h; simp at h; exact h.1.2
  have hc : capd (a / Nat.gcd a b) = dig (a / Nat.gcd a b) := capd_of (pow_up (dig_len_iff.mp hl) (by decide))
  refine ⟨?_, ?_, h3⟩
  · rw [h1, sgZ_signed, hc]
  · rw [h2, magZ_signed, hc]
theorem Arg.trim {w : World} {A : Option Addr} {n c : Nat} {ds : List Nat} (h : Arg w A n c (nats ds)) (hd : Digs ds) : Arg w A (dig (val ds)).length c (nats (dig (val ds))) := by
  have h3 := dig_le_len hd
  have h4 := h.nlen
  have hcut := h.1.take (m := (dig (val ds)).length) (by omega)
  rw [nats_take, take_dig hd] at hcut
  exact ⟨hcut, by have := h.2.1; omega, h.2.2.1, h.2.2.2⟩
theorem Arg.same {w : World} {A : Option Addr} {n c : Nat} {X Y : List Value} (h : Arg w A n c X) (e : X = Y) : Arg w A n c Y := e ▸ h
/-- A row joined to an empty one lies in new memory. -/
theorem appended {u u1 : World} {o : Obj} {v : Value} {k : Nat} {X : List Value} (hown : u1.ownsRow u.heap.size 3 1 v k X) (hg : (u.alloc o).grownBy u1 (some u.heap.size)) : OwnV u1 u.heap.size 3 v X ∧ Below u.heap.size u u1 :=
  ⟨OwnV.of_own hown, ((Below.refl u.heap.size u).alloc (Nat.le_refl _) o).grown hg (by simp) (fun k hk => by have e9 : u.heap.size = k := Option.some.inj hk; omega)⟩
end Go.Proofs.YtbikkbamcleinaaDoor
namespace Go.Proofs.YtbikkbamcleinaaDoor
open Go.RowKit
set_option linter.unusedVariables false

theorem OwnV.shape3 {w : World} {base : Nat} {e : TypeId} {v : Value} {X : List Value} (h : OwnV w base e v X) : ∃ A n c, v = .slice A n c := by
  obtain ⟨A, c, h⟩ := h.shape
  exact ⟨A, _, c, h⟩
/-- A chunk of rows: each a slice value and what it reads as. -/
abbrev Chunk := List (Value × List Value)
/-- Two blocks, if there are two, are not one. -/
def Far (a b : Option Nat) : Prop := ∀ k, a = some k → b = some k → False
theorem Far.symm {a b : Option Nat} (h : Far a b) : Far b a := fun k h1 h2 => h k h2 h1
theorem Far.ne {a b : Option Nat} (h : Far a b) : a = none ∨ a ≠ b := by
  cases a with
  | none => exact .inl rfl
  | some k => exact .inr fun e => h k rfl e.symm
theorem Far.of_ne {a b : Option Nat} (h : a = none ∨ a ≠ b) : Far a b := by
  intro k h1 h2
  rcases h with h | h
  · rw [h] at h1; simp at h1
  · exact h (h1.trans h2.symm)
def FarL (l m : Chunk) : Prop := ∀ p ∈ l, ∀ q ∈ m, Far p.1.ownBlock q.1.ownBlock
theorem FarL.symm {l m : Chunk} (h : FarL l m) : FarL m l := fun p hp q hq => (h q hq p hp).symm
/-- The blocks of a chunk. -/
def blks (l : Chunk) : List (Option Nat) := l.map fun p => p.1.ownBlock
/-- Rows of one's own, all apart. -/
def Owns (w : World) (base : Nat) (rs : Chunk) : Prop :=
  (∀ p ∈ rs, OwnV w base 3 p.1 p.2) ∧ rs.Pairwise fun p q => Far p.1.ownBlock q.1.ownBlock
/-- Only the named blocks may have turned. -/
structure Turned (w w' : World) (bl : List (Option Nat)) : Prop where
  os : w'.os = w.os
  tape : w'.tape = w.tape
  output : w'.output = w.output
  size : w.heap.size ≤ w'.heap.size
  block : ∀ k, k < w.heap.size → some k ∉ bl → w'.heap[k]? = w.heap[k]?
theorem OwnV.sameAt {w w' : World} {base : Nat} {e : TypeId} {v : Value} {X : List Value} (h : OwnV w base e v X) (hb : ∀ k, v.ownBlock = some k → w'.heap[k]? = w.heap[k]?) : OwnV w' base e v X := by
  rcases h with h | ⟨g, c, ys, rfl, h1, h2, h3, h4⟩
  · exact .inl h
  · refine .inr ⟨g, c, ys, rfl, h1, h2, ?_, h4⟩
    obtain ⟨q1, q2⟩ := h3
    refine ⟨q1, ?_⟩
    rcases q2 with q2 | ⟨g', cap, cur, hv, hbase, hh, r⟩
    · exact .inl q2
    · obtain ⟨rfl, _⟩ : g = g' ∧ ys.length = cap := by simpa using hv
      exact .inr ⟨g, cap, cur, hv, hbase, (hb g (by simp [Value.ownBlock])).trans hh, r⟩
section
variable {w w' w1 w2 : World} {bl bm : List (Option Nat)}
theorem Turned.refl (w : World) (bl : List (Option Nat)) : Turned w w bl := ⟨rfl, rfl, rfl, Nat.le_refl _, fun _ _ _ => rfl⟩
theorem Turned.of_grown {row : Option Nat} (h : w.grownBy w' row) : Turned w w' [row] := ⟨h.os, h.tape, h.output, h.size, fun k hk hn => h.block k hk (by simpa using hn)⟩
theorem Turned.of_below {B : Nat} (h : Below B w w') (hB : w.heap.size ≤ B) : Turned w w' [] := ⟨h.os, h.tape, h.output, h.size, fun k hk _ => h.block k (by omega)⟩
theorem Turned.trans (h : Turned w w1 bl) (h2 : Turned w1 w2 bm) : Turned w w2 (bl ++ bm) :=
  ⟨h2.os.trans h.os, h2.tape.trans h.tape, h2.output.trans h.output, Nat.le_trans h.size h2.size, fun k hk hn => by
    rw [List.mem_append, not_or] at hn
    exact (h2.block k (Nat.lt_of_lt_of_le hk h.size) hn.2).trans (h.block k hk hn.1)⟩
theorem Turned.mono (h : Turned w w' bl) (hs : ∀ x ∈ bl, x ∈ bm) : Turned w w' bm := ⟨h.os, h.tape, h.output, h.size, fun k hk hn => h.block k hk fun hm => hn (hs _ hm)⟩
theorem Turned.below {B : Nat} {a : World} (ht : Turned w w' bl) (h : Below B a w) (hB : B ≤ w.heap.size) (hb : ∀ k, some k ∈ bl → B ≤ k) : Below B a w' :=
  ⟨ht.os.trans h.os, ht.tape.trans h.tape, ht.output.trans h.output, Nat.le_trans h.size ht.size, fun k hk => (ht.block k (by omega) (fun hm => by have := hb k hm; omega)).trans (h.block k hk)⟩
theorem Turned.held {b : Nat} {vs : List Value} (ht : Turned w w' bl) (h : HeldL w b vs) (hb : some b ∉ bl) : HeldL w' b vs := h.same ht.size (ht.block b h.lt hb)
theorem Turned.own {base : Nat} {e : TypeId} {v : Value} {X : List Value} (ht : Turned w w' bl) (h : OwnV w base e v X) (hb : ∀ x ∈ bl, Far v.ownBlock x) : OwnV w' base e v X :=
  h.sameAt fun k hk => ht.block k (h.lt k hk).2 fun hm => hb _ hm k hk rfl
end
theorem Owns.nil (w : World) (base : Nat) : Owns w base [] := ⟨by simp, .nil⟩
theorem Owns.one {w : World} {base : Nat} {v : Value} {X : List Value} (h : OwnV w base 3 v X) : Owns w base [(v, X)] := ⟨by simpa using h, by simp⟩
theorem Owns.below {w w' : World} {base : Nat} {l : Chunk} (h : Owns w base l) (hb : Below w.heap.size w w') : Owns w' base l := ⟨fun p hp => (h.1 p hp).below hb, h.2⟩
theorem Owns.based {w : World} {base base' : Nat} {l : Chunk} (h : Owns w base l) (hb : base' ≤ base) : Owns w base' l := ⟨fun p hp => (h.1 p hp).based hb, h.2⟩
theorem Owns.app {w : World} {base : Nat} {l m : Chunk} (h : Owns w base l) (h2 : Owns w base m) (hf : FarL l m) : Owns w base (l ++ m) :=
  ⟨fun p hp => (List.mem_append.mp hp).elim (h.1 p) (h2.1 p), List.pairwise_append.mpr ⟨h.2, h2.2, hf⟩⟩
theorem Owns.left {w : World} {base : Nat} {l m : Chunk} (h : Owns w base (l ++ m)) : Owns w base l := ⟨fun p hp => h.1 p (List.mem_append_left _ hp), (List.pairwise_append.mp h.2).1⟩
theorem Owns.right {w : World} {base : Nat} {l m : Chunk} (h : Owns w base (l ++ m)) : Owns w base m := ⟨fun p hp => h.1 p (List.mem_append_right _ hp), (List.pairwise_append.mp h.2).2.1⟩
theorem Owns.far {w : World} {base : Nat} {l m : Chunk} (h : Owns w base (l ++ m)) : FarL l m := fun p hp q hq => (List.pairwise_append.mp h.2).2.2 p hp q hq
theorem Owns.at_ {w : World} {base : Nat} {l : Chunk} (h : Owns w base l) (k : Nat) {v : Value} {X : List Value} (e : l[k]? = some (v, X)) : OwnV w base 3 v X := h.1 _ (List.mem_of_getElem? e)
/-- A chunk that was there and one made behind it. -/
theorem Owns.newer {w w' : World} {base base' : Nat} {l m : Chunk} (h : Owns w base l) (h2 : Owns w' base' m) (hb : w.heap.size ≤ base') : FarL m l := fun p hp q hq k e1 e2 => by
  have a := ((h2.1 p hp).lt k e1).1
  have b := ((h.1 q hq).lt k e2).2
  omega
/-- Since w0: old memory is unturned; the blocks bs and the chunks cs were made, all apart. -/
structure St (w0 w : World) (bs : List (Nat × List Value)) (cs : List Chunk) : Prop where
  below : Below w0.heap.size w0 w
  box : ∀ p ∈ bs, HeldL w p.1 p.2 ∧ w0.heap.size ≤ p.1
  row : ∀ l ∈ cs, Owns w w0.heap.size l
  bb : bs.Pairwise fun p q => p.1 ≠ q.1
  cc : cs.Pairwise FarL
  br : ∀ p ∈ bs, ∀ l ∈ cs, ∀ q ∈ l, Far (some p.1) q.1.ownBlock
section
variable {w0 w w' : World} {bs : List (Nat × List Value)} {cs : List Chunk}
theorem St.start (w : World) : St w w [] [] := ⟨Below.refl _ _, by simp, by simp, .nil, .nil, by simp⟩
theorem St.size (h : St w0 w bs cs) : w0.heap.size ≤ w.heap.size := h.below.size
theorem St.held (h : St w0 w bs cs) (k : Nat) {b : Nat} {vs : List Value} (e : bs[k]? = some (b, vs)) : HeldL w b vs := (h.box _ (List.mem_of_getElem? e)).1
theorem St.cell (h : St w0 w bs cs) (k j : Nat) {b : Nat} {vs : List Value} {v : Value} (e : bs[k]? = some (b, vs)) (e2 : vs[j]? = some v) : w.cell? ⟨b, j, none⟩ = some v := (h.held k e).cell j v e2
theorem St.froz (h : St w0 w bs cs) (k j : Nat) {b : Nat} {vs : List Value} {v : Value} (e : bs[k]? = some (b, vs)) (e2 : vs[j]? = some v) : w.frozen? ⟨b, j, none⟩ = false := (h.held k e).froz j v e2
theorem St.own (h : St w0 w bs cs) (k : Nat) {l : Chunk} (e : cs[k]? = some l) : Owns w w0.heap.size l := h.row _ (List.mem_of_getElem? e)
theorem St.lt (h : St w0 w bs cs) (k : Nat) {b : Nat} {vs : List Value} (e : bs[k]? = some (b, vs)) : b < w.heap.size := (h.held k e).lt
theorem St.ge (h : St w0 w bs cs) (k : Nat) {b : Nat} {vs : List Value} (e : bs[k]? = some (b, vs)) : w0.heap.size ≤ b := (h.box _ (List.mem_of_getElem? e)).2
theorem St.ne (h : St w0 w bs cs) (i k : Nat) {b c : Nat} {vs us : List Value} (e : bs[i]? = some (b, vs)) (e2 : bs[k]? = some (c, us)) (hik : i ≠ k) : b ≠ c := by
  obtain ⟨h1, g1⟩ := List.getElem?_eq_some_iff.mp e
  obtain ⟨h2, g2⟩ := List.getElem?_eq_some_iff.mp e2
  have P := List.pairwise_iff_getElem.mp h.bb
  rcases Nat.lt_or_gt_of_ne hik with l | l
  · have := P i k h1 h2 l; rw [g1, g2] at this; exact this
  · have := P k i h2 h1 l; rw [g1, g2] at this; exact fun e => this e.symm
theorem St.far (h : St w0 w bs cs) (i k : Nat) {l m : Chunk} (e : cs[i]? = some l) (e2 : cs[k]? = some m) (hik : i ≠ k) : FarL l m := by
  obtain ⟨h1, g1⟩ := List.getElem?_eq_some_iff.mp e
  obtain ⟨h2, g2⟩ := List.getElem?_eq_some_iff.mp e2
  have P := List.pairwise_iff_getElem.mp h.cc
  rcases Nat.lt_or_gt_of_ne hik with l | l
  · have := P i k h1 h2 l; rw [g1, g2] at this; exact this
  · have := P k i h2 h1 l; rw [g1, g2] at this; exact this.symm
theorem St.drew (h : St w0 w bs cs) : St w0 w.drew bs cs := ⟨⟨h.below.os, h.below.tape, h.below.output, h.below.size, h.below.block⟩, fun p hp => ⟨(h.box p hp).1.drew, (h.box p hp).2⟩, fun l hl => h.row l hl, h.bb, h.cc, h.br⟩
/-- A call that turns nothing old. -/
theorem St.call (h : St w0 w bs cs) (hb : Below w.heap.size w w') : St w0 w' bs cs :=
  ⟨h.below.trans (hb.mono h.size), fun p hp => ⟨(h.box p hp).1.after hb, (h.box p hp).2⟩, fun p hp => (h.row p hp).below hb, h.bb, h.cc, h.br⟩
/-- A call that hands back rows in new memory. -/
theorem St.rows {l : Chunk} (h : St w0 w bs cs) (ho : Owns w' w.heap.size l) (hb : Below w.heap.size w w') : St w0 w' bs (l :: cs) := by
  have h' := h.call hb
  refine ⟨h'.below, h'.box, fun m hm => ?_, h'.bb, List.pairwise_cons.mpr ⟨fun m hm => (h.row m hm).newer ho (Nat.le_refl _), h'.cc⟩, fun p hp m hm q hq => ?_⟩
  · rcases List.mem_cons.mp hm with rfl | a
    · exact ho.based h.size
    · exact h'.row m a
  · rcases List.mem_cons.mp hm with rfl | a
    · intro k e1 e2
      have a := ((ho.1 q hq).lt k e2).1
      have b := (h.box p hp).1.lt
      obtain rfl : p.1 = k := by simpa using e1
      omega
    · exact h'.br p hp m a q hq
/-- One chunk taken for two. -/
theorem St.split {l m : Chunk} (h : St w0 w bs ((l ++ m) :: cs)) : St w0 w bs (l :: m :: cs) := by
  have ho := h.row (l ++ m) (by simp)
  have hc := List.pairwise_cons.mp h.cc
  refine ⟨h.below, h.box, fun q hq => ?_, h.bb, List.pairwise_cons.mpr ⟨fun q hq => ?_, List.pairwise_cons.mpr ⟨fun q hq p hp => hc.1 q hq p (by simp [hp]), hc.2⟩⟩, fun p hp q hq => ?_⟩
  · simp only [List.mem_cons] at hq
    rcases hq with rfl | rfl | a
    · exact ho.left
    · exact ho.right
    · exact h.row q (by simp [a])
  · rcases List.mem_cons.mp hq with rfl | a
    · exact ho.far
    · exact fun p hp => hc.1 q a p (by simp [hp])
  · simp only [List.mem_cons] at hq
    rcases hq with rfl | rfl | a
    · exact fun r hr => h.br p hp (q ++ m) (by simp) r (by simp [hr])
    · exact fun r hr => h.br p hp (l ++ q) (by simp) r (by simp [hr])
    · exact h.br p hp q (by simp [a])
/-- A block that is made. -/
theorem St.alloc (h : St w0 w bs cs) (vs : List Value) (T : TypeId) : St w0 (w.alloc (.cells vs.toArray T)) ((w.heap.size, vs) :: bs) cs := by
  have hb : Below w.heap.size w (w.alloc (.cells vs.toArray T)) := (Below.refl _ w).alloc (Nat.le_refl _) _
  have h' := h.call hb
  refine ⟨h'.below, ?_, h'.row, List.pairwise_cons.mpr ⟨fun p hp => ?_, h.bb⟩, h.cc, ?_⟩
  · intro p hp
    rcases List.mem_cons.mp hp with rfl | a
    · exact ⟨HeldL.new w vs T, h.size⟩
    · exact h'.box p a
  · have := (h.box p hp).1.lt
    exact fun e => by simp only at e; omega
  · intro p hp m hm q hq
    rcases List.mem_cons.mp hp with rfl | a
    · intro k e1 e2
      have := (((h.row m hm).1 q hq).lt k e2).2
      simp only [Option.some.injEq] at e1
      omega
    · exact h.br p a m hm q hq
theorem St.alloc_at (h : St w0 w bs cs) {b : Nat} (vs : List Value) (T : TypeId) (e : w.heap.size = b) : St w0 (w.alloc (.cells vs.toArray T)) ((b, vs) :: bs) cs := e ▸ h.alloc vs T
/-- A block that is made, set down behind the others. -/
theorem St.allocE (h : St w0 w bs cs) (vs : List Value) (T : TypeId) : St w0 (w.alloc (.cells vs.toArray T)) (bs ++ [(w.heap.size, vs)]) cs := by
  have h' := h.alloc vs T
  have hp : ((w.heap.size, vs) :: bs).Perm (bs ++ [(w.heap.size, vs)]) := (List.perm_append_singleton (w.heap.size, vs) bs).symm
  exact ⟨h'.below, fun p hp' => h'.box p (hp.symm.subset hp'), h'.row, (hp.pairwise_iff (fun {p q} (e : p.1 ≠ q.1) => e.symm)).mp h'.bb, h'.cc, fun p hp' => h'.br p (hp.symm.subset hp')⟩
/-- A block that something else has made. -/
theorem St.boxed {b : Nat} {vs : List Value} (h : St w0 w bs cs) (hb : Below w.heap.size w w') (hk : HeldL w' b vs) (hl : w.heap.size ≤ b) : St w0 w' ((b, vs) :: bs) cs := by
  have h' := h.call hb
  have hs := h.size
  refine ⟨h'.below, ?_, h'.row, List.pairwise_cons.mpr ⟨fun p hp => ?_, h.bb⟩, h.cc, ?_⟩
  · intro p hp
    rcases List.mem_cons.mp hp with rfl | a
    · exact ⟨hk, Nat.le_trans hs hl⟩
    · exact h'.box p a
  · have := (h.box p hp).1.lt
    exact fun e => by simp only at e; omega
  · intro p hp m hm q hq
    rcases List.mem_cons.mp hp with rfl | a
    · intro k e1 e2
      have := (((h.row m hm).1 q hq).lt k e2).2
      simp only [Option.some.injEq] at e1
      omega
    · exact h.br p a m hm q hq
/-- Blocks turned: each block and each chunk is either far from them or given anew. -/
theorem St.turned {bl : List (Option Nat)} {bs' : List (Nat × List Value)} {cs' : List Chunk} (h : St w0 w bs cs) (ht : Turned w w' bl) (hbl : ∀ k, some k ∈ bl → w0.heap.size ≤ k)
    (eb : bs'.map Prod.fst = bs.map Prod.fst) (ec : cs'.map (fun l => l.map Prod.fst) = cs.map fun l => l.map Prod.fst)
    (hb : ∀ p ∈ bs', HeldL w' p.1 p.2) (hc : ∀ l ∈ cs', Owns w' w0.heap.size l) : St w0 w' bs' cs' := by
  refine ⟨ht.below h.below h.size hbl, fun p hp => ⟨hb p hp, ?_⟩, hc, ?_, ?_, ?_⟩
  · have : p.1 ∈ bs.map Prod.fst := by rw [← eb]; exact List.mem_map_of_mem hp
    obtain ⟨q, hq, e⟩ := List.mem_map.mp this
    rw [← e]; exact (h.box q hq).2
  · have := h.bb
    rw [← List.pairwise_map (f := Prod.fst) (R := fun a b => a ≠ b)] at this ⊢
    rw [eb]; exact this
  · have P : (cs.map fun l => l.map Prod.fst).Pairwise fun l m => ∀ p ∈ l, ∀ q ∈ m, Far (Value.ownBlock p) (Value.ownBlock q) := by
      rw [List.pairwise_map]
      exact h.cc.imp fun {l m} (hf : FarL l m) p hp q hq => by
        obtain ⟨p', hp', rfl⟩ := List.mem_map.mp hp
        obtain ⟨q', hq', rfl⟩ := List.mem_map.mp hq
        exact hf p' hp' q' hq'
    rw [← ec, List.pairwise_map] at P
    refine P.imp fun {l m} hf => ?_
    intro p hp q hq
    exact hf p.1 (List.mem_map_of_mem hp) q.1 (List.mem_map_of_mem hq)
  · intro p hp l hl q hq
    have a : p.1 ∈ bs.map Prod.fst := by rw [← eb]; exact List.mem_map_of_mem hp
    obtain ⟨p', hp', e⟩ := List.mem_map.mp a
    have b : l.map Prod.fst ∈ cs.map (fun l => l.map Prod.fst) := by rw [← ec]; exact List.mem_map_of_mem (f := fun l : Chunk => l.map Prod.fst) hl
    obtain ⟨l', hl', e'⟩ := List.mem_map.mp b
    have c : q.1 ∈ l'.map Prod.fst := by rw [e']; exact List.mem_map_of_mem hq
    obtain ⟨q', hq', e''⟩ := List.mem_map.mp c
    rw [← e, ← e'']
    exact h.br p' hp' l' hl' q' hq'
theorem getElem?_set_cases {α : Type} {l : List α} {k i : Nat} {x y : α} (h : (l.set k x)[i]? = some y) : (i = k ∧ y = x) ∨ (i ≠ k ∧ l[i]? = some y) := by
  rw [List.getElem?_set] at h
  by_cases e : k = i
  · rw [if_pos e] at h
    split at h
    · exact .inl ⟨e.symm, (Option.some.inj h).symm⟩
    · simp at h
  · rw [if_neg e] at h
    exact .inr ⟨fun q => e q.symm, h⟩
theorem map_set_same {α β : Type} (f : α → β) {l : List α} {k : Nat} {x y : α} (e : l[k]? = some x) (hf : f y = f x) : (l.set k y).map f = l.map f := by
  rw [List.map_set, hf]
  apply List.ext_getElem?
  intro i
  rw [List.getElem?_set]
  split
  · rename_i h; subst h
    have hk := (List.getElem?_eq_some_iff.mp e).1
    simp [hk]
    have := (List.getElem?_eq_some_iff.mp e).2
    rw [this]
  · rfl
/-- A cell of a block is written. -/
theorem St.set (h : St w0 w bs cs) (k j : Nat) {b : Nat} {vs : List Value} {u : Value} (v : Value) (e : bs[k]? = some (b, vs)) (e2 : vs[j]? = some u) : St w0 (w.setCell ⟨b, j, none⟩ v) (bs.set k (b, vs.set j v)) cs := by
  have ht : Turned w (w.setCell ⟨b, j, none⟩ v) [some b] := ⟨rfl, rfl, rfl, by simp, fun q hq hne => Below.heap_setCell w ⟨b, j, none⟩ v q (fun e => hne (by simp [e]))⟩
  refine h.turned ht ?_ (map_set_same _ e rfl) rfl ?_ ?_
  · intro q hq
    simp only [List.mem_singleton, Option.some.injEq] at hq
    rw [hq]; exact h.ge k e
  · intro p hp
    obtain ⟨i, hi⟩ := List.mem_iff_getElem?.mp hp
    rcases getElem?_set_cases hi with ⟨_, rfl⟩ | ⟨ik, e3⟩
    · exact (h.held k e).set j v u e2
    · exact (h.held i (b := p.1) (vs := p.2) e3).setOther (p := ⟨b, j, none⟩) (h.ne i k (b := p.1) (vs := p.2) e3 e ik) v
  · intro l hl
    refine ⟨fun p hp => ht.own ((h.row l hl).1 p hp) ?_, (h.row l hl).2⟩
    intro x hx
    simp only [List.mem_singleton] at hx
    rw [hx]
    exact (h.br _ (List.mem_of_getElem? e) l hl p hp).symm
/-- Cells written one behind the other. -/
def setCells (w : World) (b : Nat) : Nat → List Value → World
  | _, [] => w
  | j, v :: r => setCells (w.setCell ⟨b, j, none⟩ v) b (j + 1) r
theorem St.setSeg {X old us rest : List Value} {b m k : Nat} (h : St w0 w bs cs) (e : bs[k]? = some (b, X ++ (old ++ rest))) (hX : X.length = m) (hl : us.length = old.length) : St w0 (setCells w b m us) (bs.set k (b, X ++ (us ++ rest))) cs := by
  induction us generalizing w X old m bs with
  | nil =>
    obtain rfl : old = [] := List.eq_nil_of_length_eq_zero (by simpa using hl.symm)
    have : bs.set k (b, X ++ ([] ++ rest)) = bs := by
      apply List.ext_getElem?
      intro i
      rw [List.getElem?_set]
      split
      · rename_i hk; subst hk
        rw [e]; simp [(List.getElem?_eq_some_iff.mp e).1]
      · rfl
    rw [this]; exact h
  | cons v r ih =>
    cases old with
    | nil => simp at hl
    | cons u old =>
      subst hX
      have h1 := h.set k X.length (u := u) v e (by simp)
      have e1 : (X ++ (u :: old ++ rest)).set X.length v = (X ++ [v]) ++ (old ++ rest) := by simp
      rw [e1] at h1
      have hk := (List.getElem?_eq_some_iff.mp e).1
      have h2 := ih (X := X ++ [v]) (old := old) (m := X.length + 1) h1 (by simp [hk]) (by simp) (by simpa using hl)
      rw [List.set_set] at h2
      simpa [setCells] using h2
/-- A block is written whole. -/
theorem St.setAll (h : St w0 w bs cs) (k : Nat) {b : Nat} {vs : List Value} (us : List Value) (e : bs[k]? = some (b, vs)) (hl : us.length = vs.length) : St w0 (setCells w b 0 us) (bs.set k (b, us)) cs := by
  have := h.setSeg (X := []) (old := vs) (us := us) (rest := []) (m := 0) (k := k) (b := b) (by simpa using e) rfl hl
  simpa using this
/-- The rows of one chunk are written anew. -/
theorem St.mark (h : St w0 w bs cs) (k : Nat) {l l' : Chunk} (e : cs[k]? = some l) (hf : l'.map Prod.fst = l.map Prod.fst) (ho : Owns w' w0.heap.size l') (ht : Turned w w' (blks l)) : St w0 w' bs (cs.set k l') := by
  have hm := List.mem_of_getElem? e
  refine h.turned ht ?_ rfl (map_set_same _ e hf) ?_ ?_
  · intro q hq
    obtain ⟨p, hp, e2⟩ := List.mem_map.mp hq
    exact (((h.row l hm).1 p hp).lt q e2).1
  · intro p hp
    refine ht.held (h.box p hp).1 fun hx => ?_
    obtain ⟨q, hq, e2⟩ := List.mem_map.mp hx
    exact h.br p hp l hm q hq p.1 rfl e2
  · intro m hm'
    obtain ⟨i, hi⟩ := List.mem_iff_getElem?.mp hm'
    rcases getElem?_set_cases hi with ⟨_, rfl⟩ | ⟨ik, e3⟩
    · exact ho
    · have hM := List.mem_of_getElem? e3
      have hfar := h.far i k e3 e ik
      refine ⟨fun p hp => ht.own ((h.row m hM).1 p hp) fun x hx => ?_, (h.row m hM).2⟩
      obtain ⟨q, hq, rfl⟩ := List.mem_map.mp hx
      exact hfar p hp q hq
/-- Fewer blocks and chunks. -/
theorem St.sub {bs' : List (Nat × List Value)} {cs' : List Chunk} (h : St w0 w bs cs) (hb : bs'.Sublist bs) (hr : cs'.Sublist cs) : St w0 w bs' cs' :=
  ⟨h.below, fun p hp => h.box p (hb.subset hp), fun p hp => h.row p (hr.subset hp), h.bb.sublist hb, h.cc.sublist hr, fun p hp q hq => h.br p (hb.subset hp) q (hr.subset hq)⟩
theorem St.drop (h : St w0 w bs cs) (k : Nat) : St w0 w bs (cs.eraseIdx k) := h.sub (List.Sublist.refl _) (List.eraseIdx_sublist _ _)
theorem St.dropBox (h : St w0 w bs cs) (k : Nat) : St w0 w (bs.eraseIdx k) cs := h.sub (List.eraseIdx_sublist _ _) (List.Sublist.refl _)
/-- Some of the chunks, in any order, as one. -/
theorem St.pick (h : St w0 w bs cs) (is : List Nat) (ls : List Chunk) (hn : is.Nodup) (hl : is.map (fun i => cs[i]?) = ls.map some) : Owns w w0.heap.size ls.flatten := by
  have hlen : is.length = ls.length := by simpa using congrArg List.length hl
  have G : ∀ m (h1 : m < is.length) (h2 : m < ls.length), cs[is[m]]? = some ls[m] := by
    intro m h1 h2
    have := congrArg (fun q => q[m]?) hl
    simpa [h1, h2] using this
  refine ⟨fun p hp => ?_, ?_⟩
  · obtain ⟨l, hl1, hp1⟩ := List.mem_flatten.mp hp
    obtain ⟨m, hm, rfl⟩ := List.getElem_of_mem hl1
    exact (h.own _ (G m (by omega) hm)).1 p hp1
  · rw [List.pairwise_flatten]
    refine ⟨fun l hl1 => ?_, ?_⟩
    · obtain ⟨m, hm, rfl⟩ := List.getElem_of_mem hl1
      exact (h.own _ (G m (by omega) hm)).2
    · rw [List.pairwise_iff_getElem]
      intro i j hi hj ij
      have hne : is[i]'(by omega) ≠ is[j]'(by omega) := fun e => by
        have := (List.getElem_inj hn).mp e
        omega
      exact h.far _ _ (G i (by omega) hi) (G j (by omega) hj) hne
/-- Rows of no memory. -/
theorem Owns.nils (w : World) (base n : Nat) : Owns w base (List.replicate n (.slice none 0 0, [])) := by
  refine ⟨fun p hp => ?_, ?_⟩
  · rw [(List.mem_replicate.mp hp).2]; exact OwnV.nil _ _ _
  · rw [List.pairwise_replicate]
    exact .inr fun k h1 => by simp [Value.ownBlock] at h1
theorem St.nils (h : St w0 w bs cs) (n : Nat) : St w0 w bs (List.replicate n (.slice none 0 0, []) :: cs) := by
  have F : ∀ q ∈ List.replicate n ((.slice none 0 0 : Value), ([] : List Value)), ∀ k, q.1.ownBlock ≠ some k := by
    intro q hq k
    rw [(List.mem_replicate.mp hq).2]; simp [Value.ownBlock]
  refine ⟨h.below, h.box, fun l hl => ?_, h.bb, List.pairwise_cons.mpr ⟨fun l hl p hp q hq k e1 e2 => F p hp k e1, h.cc⟩, fun p hp l hl q hq => ?_⟩
  · rcases List.mem_cons.mp hl with rfl | a
    · exact Owns.nils _ _ _
    · exact h.row l a
  · rcases List.mem_cons.mp hl with rfl | a
    · exact fun k e1 e2 => F q hq k e2
    · exact h.br p hp l a q hq
end
/-- A slice value that may be read as the cells X. -/
def ArgV (w : World) (v : Value) (X : List Value) : Prop := ∃ A n c, v = .slice A n c ∧ Arg w A n c X
theorem OwnV.argV {w : World} {base : Nat} {e : TypeId} {v : Value} {X : List Value} (h : OwnV w base e v X) : ArgV w v X := by
  obtain ⟨A, c, rfl⟩ := h.shape
  exact ⟨A, _, c, rfl, h.arg⟩
theorem ArgV.below {w w' : World} {v : Value} {X : List Value} (h : ArgV w v X) (hb : Below w.heap.size w w') : ArgV w' v X := by
  obtain ⟨A, n, c, rfl, h⟩ := h
  exact ⟨A, n, c, rfl, h.below hb (Nat.le_refl _)⟩
theorem Owns.argV {w : World} {base : Nat} {l : Chunk} (h : Owns w base l) (k : Nat) {v : Value} {X : List Value} (e : l[k]? = some (v, X)) : ArgV w v X := (h.at_ k e).argV
end Go.Proofs.YtbikkbamcleinaaDoor
namespace Go.Proofs.YtbikkbamcleinaaDoor
open Go.RowKit Nt
set_option linter.unusedVariables false

/-- What RatNeg answers. -/
def ngS (s : Bool) (xs ys : List Int) : Bool := okR s xs ys && sgZ (-(zOf s xs))
def ngN (s : Bool) (xs ys : List Int) : List Nat := if okR s xs ys = true then magZ (-(zOf s xs)) else []
def ngD (s : Bool) (xs ys : List Int) : List Nat := if okR s xs ys = true then toN ys else []
theorem ng_yes {s : Bool} {xs ys : List Int} (h : okR s xs ys = true) : ngS s xs ys = sgZ (-(zOf s xs)) ∧ ngN s xs ys = magZ (-(zOf s xs)) ∧ ngD s xs ys = toN ys := by simp [ngS, ngN, ngD, h]
theorem ng_no {s : Bool} {xs ys : List Int} (h : okR s xs ys = false) : ngS s xs ys = false ∧ ngN s xs ys = [] ∧ ngD s xs ys = [] := by simp [ngS, ngN, ngD, h]
theorem ngN_len (s : Bool) (xs ys : List Int) : (ngN s xs ys).length ≤ 60 := by unfold ngN; split; exact capd_len _; simp
theorem ngD_len (s : Bool) (xs ys : List Int) : (ngD s xs ys).length ≤ 60 := by
  unfold ngD
  split
  · next h => rw [toN_len]; have := (okR_parts h).2.2.2.1; omega
  · simp
end Go.Proofs.YtbikkbamcleinaaDoor
namespace Go.Proofs.YtbikkbamcleinaaDoor
open Go.RowKit Nt
set_option linter.unusedVariables false

/-- What RatEqual answers. -/
def eqR (s : Bool) (xs ys : List Int) (t : Bool) (us vs : List Int) : Bool := (s == t) && (decide (xs = us) && decide (ys = vs))
end Go.Proofs.YtbikkbamcleinaaDoor
