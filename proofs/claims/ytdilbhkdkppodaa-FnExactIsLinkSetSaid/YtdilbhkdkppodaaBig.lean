/- Big integers: what both sides answer, and the small functions of the model and of the program. Conditions: none. -/
import Derived.Test.YtdilbhkdkppodaaProg
import Derived.Test.YtdilbhkdkppodaaNatCmp
import Derived.Test.YtdilbhkdkppodaaRow
import Derived.Test.YtdilbhkdkppodaaHelpB
namespace Go.Proofs.Ytdilbhkdkppodaa
open Go.RowKit Nt
set_option linter.unusedVariables false

/-- A natural number with a sign. -/
def signed (s : Bool) (v : Nat) : Int := if s then -(v : Int) else (v : Int)
/-- Is it a big integer? -/
def okB (s : Bool) (xs : List Int) : Bool := okI xs && (!s || decide (0 < xs.length))
/-- The number that a big integer is. -/
def zOf (s : Bool) (xs : List Int) : Int := signed s (val (toN xs))
/-- The limbs and the sign of a number as a result. -/
def magZ (z : Int) : List Nat := capd z.natAbs
def sgZ (z : Int) : Bool := decide (z < 0) && decide (0 < (capd z.natAbs).length)
/-- A result where the arguments are valid, else the zero value. -/
def resS (ok : Bool) (z : Int) : Bool := ok && sgZ z
def resM (ok : Bool) (z : Int) : List Nat := if ok = true then magZ z else []
theorem resM_len (ok : Bool) (z : Int) : (resM ok z).length ≤ 60 := by unfold resM; split; exact capd_len _; simp
theorem signed_abs (s : Bool) (v : Nat) : (signed s v).natAbs = v := by cases s <;> simp [signed]
theorem capd_zero : capd 0 = [] := by rw [capd_of (Nat.pow_pos (by decide))]; unfold dig; simp
theorem sgZ_signed (s : Bool) (v : Nat) : sgZ (signed s v) = (s && decide (0 < (capd v).length)) := by
  unfold sgZ
  rw [signed_abs]
  cases s with
  | false =>
    have : ¬ signed false v < 0 := by simp [signed]
    simp [this]
  | true =>
    by_cases h : v = 0
    · subst h; simp [capd_zero]
    · have : signed true v < 0 := by simp [signed]; omega
      simp [this]
theorem magZ_signed (s : Bool) (v : Nat) : magZ (signed s v) = capd v := by unfold magZ; rw [signed_abs]
theorem signed_neg (s : Bool) (v : Nat) : signed (!s) v = - signed s v := by cases s <;> simp [signed]
theorem signed_add (s : Bool) (a b : Nat) : signed s (a + b) = signed s a + signed s b := by cases s <;> simp [signed]; omega
theorem signed_sub (s : Bool) (a b : Nat) (h : b ≤ a) : signed s (a - b) = signed s a + signed (!s) b := by cases s <;> simp [signed] <;> omega
theorem signed_mul (s t : Bool) (a b : Nat) : signed (s != t) (a * b) = signed s a * signed t b := by cases s <;> cases t <;> simp [signed, Int.neg_mul, Int.mul_neg]
theorem back_z {z : Int} (h : z.natAbs < 1000000000 ^ 60) : signed (sgZ z) (val (magZ z)) = z := by
  have e : magZ z = dig z.natAbs := capd_of h
  rw [e, val_dig]
  unfold sgZ
  rw [capd_of h]
  by_cases hz : z < 0
  · have hl : 0 < (dig z.natAbs).length := by
      rcases Nat.eq_zero_or_pos (dig z.natAbs).length with h0 | h0
      · have h1 := val_dig z.natAbs
        rw [List.eq_nil_of_length_eq_zero h0] at h1
        simp [val] at h1
        omega
      · exact h0
    simp [hz, hl, signed]
    omega
  · simp [hz, signed]
    omega
theorem magZ_can (z : Int) : Canon (magZ z) := by
  unfold magZ capd
  split
  · exact dig_can _
  · exact ⟨by simp [Digs], by simp⟩
theorem okB_val {s : Bool} {xs : List Int} (h : okB s xs = true) : val (toN xs) < 1000000000 ^ 60 := by
  have h1 : okI xs = true := by unfold okB at h; simp at h; exact h.1
  obtain ⟨_, h2, h3⟩ := okI_nats h1
  exact Nat.lt_of_lt_of_le (val_lt h2.1) (Nat.pow_le_pow_right (by decide) h3)
theorem okB_abs {s : Bool} {xs : List Int} (h : okB s xs = true) : (zOf s xs).natAbs < 1000000000 ^ 60 := by
  unfold zOf; rw [signed_abs]; exact okB_val h
theorem okB_ok {s : Bool} {xs : List Int} (h : okB s xs = true) : okI xs = true := by unfold okB at h; simp at h; exact h.1
theorem okB_len {xs : List Int} (h : okB true xs = true) : 0 < xs.length := by unfold okB at h; simp at h; exact h.2
set_option maxRecDepth 100000 in
set_option maxHeartbeats 1000000 in
theorem bigIntOk_spec (s : Bool) (A : Option Addr) (n c : Nat) (xs : List Int) (w : World) (hA : VRow w A n (ints xs)) (hn : n ≤ maxLen) :
    Calls Try.prog 45 #[.agg #[.bool s, .slice A n c]] w fun e w' => e = .returned (.bool (okB s xs)) ∧ Below w.heap.size w w' := by
  have HA := Lib.hid hA
  have hl : xs.length = n := by simpa [ints] using hA.1
  have HOK := Lib.hid (show okB s xs = (okI xs && (!s || decide (0 < n))) by rw [← hl]; rfl)
  have hn2 : n ≤ 9223372036854775807 := by unfold maxLen at hn; omega
  have HN := Lib.hid hn
  clear hA hl hn
  go_enter Try.func45, Try.ntmps45
  have HW := Lib.hid ((Below.refl w.heap.size w).alloc (Nat.le_refl _) (.cells #[.bool s, .slice A n c] 31))
  go_wp2_with fail
  refine (natOk_spec A n c xs _ (HA.out.below HW.out (Nat.le_refl _)) HN.out).mono ?_
  rintro e w1 ⟨rfl, hb⟩
  have hc0 : w1.cell? ⟨w.heap.size, 0, none⟩ = some (.bool s) := by rw [hb.cell (by simp)]; simp [go_sem]
  have hc1 : w1.cell? ⟨w.heap.size, 1, none⟩ = some (.slice A n c) := by rw [hb.cell (by simp)]; simp [go_sem]
  have HB := Lib.hid (HW.out.trans (hb.mono (by simp)))
  clear hb
  obtain ⟨b, hbb⟩ : ∃ b, okI xs = b := ⟨_, rfl⟩
  have HBB := Lib.hid hbb
  rw [hbb]
  clear hbb
  cases b <;> cases s
  all_goals
    by_cases h0 : 0 < n
  all_goals
    (go_wp2; go_ret; exact ⟨by rw [HOK.out, HBB.out]; simp [h0], HB.out⟩)
set_option maxRecDepth 100000 in
set_option maxHeartbeats 1000000 in
theorem isNatural_any (A : Option Addr) (n c : Nat) (xs : List Int) (w : World) (hA : VRow w A n (ints xs)) (hn : n ≤ maxLen) :
    Calls Try.prog 96 #[.slice A n c] w (fun e w' => e = .returned (.bool (okI xs)) ∧ Below w.heap.size w w') := by
  have HA := Lib.hid hA
  have HN := Lib.hid hn
  clear hA hn
  go_enter Try.func96, Try.ntmps96
  go_wp2_with fail
  refine (natOk_impl A n c xs _ HA.out HN.out).mono ?_
  rintro e w1 ⟨rfl, hb⟩
  have HB1 := Lib.hid hb
  clear hb
  go_wp2
  go_ret
  exact ⟨rfl, HB1.out⟩
set_option maxRecDepth 100000 in
set_option maxHeartbeats 1000000 in
theorem isZero_any (A : Option Addr) (n c : Nat) (w : World) (hn : n ≤ 9223372036854775807) :
    Calls Try.prog 97 #[.slice A n c] w fun e w' => e = .returned (.bool (decide (n = 0))) ∧ w' = w := by
  go_enter Try.func97, Try.ntmps97
  go_wp2
  go_ret
  exact ⟨by by_cases h : n = 0 <;> simp [h], rfl⟩
set_option maxRecDepth 100000 in
set_option maxHeartbeats 1000000 in
theorem magCmp_any (A B : Option Addr) (n c m d : Nat) (xs ys : List Int) (w : World) (hA : VRow w A n (ints xs)) (hB : VRow w B m (ints ys)) (hn : n ≤ maxLen) (hm : m ≤ maxLen) :
    Calls Try.prog 89 #[.slice A n c, .slice B m d] w (fun e w' => e = .returned (.int .i64 (cmpI xs ys)) ∧ Below w.heap.size w w') := by
  have HA := Lib.hid hA
  have HB := Lib.hid hB
  have HN := Lib.hid hn
  have HM := Lib.hid hm
  clear hA hB hn hm
  go_enter Try.func89, Try.ntmps89
  go_wp2_with fail
  refine (natCmp_impl A B n c m d xs ys _ HA.out HB.out HN.out HM.out).mono ?_
  rintro e w1 ⟨rfl, hb⟩
  have HB1 := Lib.hid hb
  clear hb
  go_wp2
  go_ret
  exact ⟨rfl, HB1.out⟩
set_option maxRecDepth 100000 in
set_option maxHeartbeats 1000000 in
theorem signedOf_any (s : Bool) (A : Option Addr) (n c : Nat) (w : World) :
    Calls Try.prog 85 #[.agg #[.bool s, .slice A n c]] w fun e w' => e = .returned (.agg #[.slice A n c, .bool s]) ∧ Below w.heap.size w w' := by
  go_enter Try.func85, Try.ntmps85
  go_wp2
  refine bodyPost_ret (v := .agg #[.slice A n c, .bool s]) (by simp [results, Try.results85, go_sem]) rfl ⟨rfl, ?_⟩
  exact ((Below.refl w.heap.size w).alloc (Nat.le_refl _) _).alloc (by simp) _
set_option maxRecDepth 100000 in
set_option maxHeartbeats 1000000 in
theorem signedOf_at (s : Bool) (A : Option Addr) (n c : Nat) (w : World) :
    Calls Try.prog 85 #[.agg #[.bool s, .slice A n c]] w fun e w' => e = .returned (.agg #[.slice A n c, .bool s]) ∧ w' = ((w.alloc (.cells #[.bool s, .slice A n c] 31)).alloc (.cells #[.slice A n c, .bool s] 93)) := by
  go_enter Try.func85, Try.ntmps85
  go_wp2
  exact bodyPost_ret (v := .agg #[.slice A n c, .bool s]) (by simp [results, Try.results85, go_sem]) rfl ⟨rfl, rfl⟩
set_option maxRecDepth 100000 in
set_option maxHeartbeats 1000000 in
theorem isValid_any (s : Bool) (A : Option Addr) (n c : Nat) (xs : List Int) (w : World) (hA : VRow w A n (ints xs)) (hn : n ≤ maxLen) :
    Calls Try.prog 86 #[.agg #[.slice A n c, .bool s]] w fun e w' => e = .returned (.bool (okB s xs)) ∧ Below w.heap.size w w' := by
  have HA := Lib.hid hA
  have hl : xs.length = n := by simpa [ints] using hA.1
  have HOK := Lib.hid (show okB s xs = (okI xs && (!s || decide (0 < n))) by rw [← hl]; rfl)
  have hn2 : n ≤ 9223372036854775807 := by unfold maxLen at hn; omega
  have HN := Lib.hid hn
  clear hA hl hn
  go_enter Try.func86, Try.ntmps86
  have HW := Lib.hid ((Below.refl w.heap.size w).alloc (Nat.le_refl _) (.cells #[.slice A n c, .bool s] 93))
  go_wp2_with fail
  refine (isNatural_any A n c xs _ (HA.out.below HW.out (Nat.le_refl _)) HN.out).mono ?_
  rintro e w1 ⟨rfl, hb⟩
  have hc0 : w1.cell? ⟨w.heap.size, 0, none⟩ = some (.slice A n c) := by rw [hb.cell (by simp)]; simp [go_sem]
  have hc1 : w1.cell? ⟨w.heap.size, 1, none⟩ = some (.bool s) := by rw [hb.cell (by simp)]; simp [go_sem]
  have HB := Lib.hid (HW.out.trans (hb.mono (by simp)))
  clear hb
  obtain ⟨b, hbb⟩ : ∃ b, okI xs = b := ⟨_, rfl⟩
  have HBB := Lib.hid hbb
  rw [hbb]
  clear hbb
  by_cases h0 : n = 0
  all_goals cases b <;> cases s
  all_goals
    (go_wp2_with (go_at_call 97; refine (isZero_any A _ c _ (by omega)).mono ?_; rintro e w2 ⟨rfl, rfl⟩); go_ret; exact ⟨by rw [HOK.out, HBB.out]; first | (simp; done) | (simp; omega), HB.out⟩)
set_option maxRecDepth 100000 in
set_option maxHeartbeats 1000000 in
theorem bigIntOk_impl (s : Bool) (A : Option Addr) (n c : Nat) (xs : List Int) (w : World) (hA : VRow w A n (ints xs)) (hn : n ≤ maxLen) :
    Calls Try.prog 67 #[.agg #[.bool s, .slice A n c]] w fun e w' => e = .returned (.bool (okB s xs)) ∧ Below w.heap.size w w' := by
  have HA := Lib.hid hA
  have HN := Lib.hid hn
  clear hA hn
  go_enter Try.func67, Try.ntmps67
  have HW := Lib.hid ((Below.refl w.heap.size w).alloc (Nat.le_refl _) (.cells #[.bool s, .slice A n c] 31))
  go_wp2_with fail
  refine (signedOf_any s A n c _).mono ?_
  rintro e w1 ⟨rfl, hb⟩
  have HB := Lib.hid (HW.out.trans (hb.mono HW.out.size))
  clear hb
  go_wp2_with fail
  refine (isValid_any s A n c xs _ (HA.out.below HB.out (Nat.le_refl _)) HN.out).mono ?_
  rintro e w2 ⟨rfl, hb⟩
  have HB2 := Lib.hid (HB.out.trans (hb.mono HB.out.size))
  clear hb
  go_wp2
  go_ret
  exact ⟨rfl, HB2.out⟩
end Go.Proofs.Ytdilbhkdkppodaa
