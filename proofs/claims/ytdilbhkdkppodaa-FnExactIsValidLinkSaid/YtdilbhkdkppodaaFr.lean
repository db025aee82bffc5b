/- Fractions in one word: what both sides answer, and the contracts of chapter 5 over that word. Conditions: none. -/
import Derived.Test.YtdilbhkdkppodaaProg
import Derived.Test.YtdilbhkdkppodaaStore
import Derived.Test.YtdilbhkdkppodaaHelpR
import Derived.Test.YtdilbhkdkppodaaRat3a
import Derived.Test.YtdilbhkdkppodaaRat3c
import Derived.Test.YtdilbhkdkppodaaRatEq
import Derived.Test.YtdilbhkdkppodaaRat4b
import Derived.Test.YtdilbhkdkppodaaRat4c
namespace Go.Proofs.Ytdilbhkdkppodaa
open Go.RowKit Nt
set_option linter.unusedVariables false

/-- A fraction as it lies in memory: sign, limbs of the numerator, limbs of the denominator. -/
structure Fr where
  s : Bool
  xs : List Int
  ys : List Int
/-- Limbs as integers. -/
def up (l : List Nat) : List Int := l.map fun x : Nat => (x : Int)
theorem ints_up (l : List Nat) : ints (up l) = nats l := rfl
namespace Fr
def zero : Fr := ⟨false, [], []⟩
def ok (F : Fr) : Bool := okR F.s F.xs F.ys
/-- z / b in lowest terms where that is right and small enough, else the zero value. -/
def rt (ok : Bool) (z : Int) (b : Nat) : Fr := ⟨rtS ok z b, up (rtN ok z b), up (rtD ok z b)⟩
def of (x : Int) : Fr := ⟨sgZ x, up (magZ x), up [1]⟩
def add (F G : Fr) : Fr := rt (okR F.s F.xs F.ys && okR G.s G.xs G.ys) (zOf F.s F.xs * (val (toN G.ys) : Int) + zOf G.s G.xs * (val (toN F.ys) : Int)) (val (toN F.ys) * val (toN G.ys))
def sub (F G : Fr) : Fr := rt (okR F.s F.xs F.ys && okR G.s G.xs G.ys) (zOf F.s F.xs * (val (toN G.ys) : Int) - zOf G.s G.xs * (val (toN F.ys) : Int)) (val (toN F.ys) * val (toN G.ys))
def mul (F G : Fr) : Fr := rt (okR F.s F.xs F.ys && okR G.s G.xs G.ys) (zOf F.s F.xs * zOf G.s G.xs) (val (toN F.ys) * val (toN G.ys))
def div (F G : Fr) : Fr := rt (okR F.s F.xs F.ys && okR G.s G.xs G.ys) (signed (F.s != G.s) (val (toN F.xs) * val (toN G.ys))) (val (toN F.ys) * val (toN G.xs))
def sgn (F : Fr) : Int := sgnR F.s F.xs F.ys
def same (F G : Fr) : Bool := eqR F.s F.xs F.ys G.s G.xs G.ys
/-- Valid or the zero value. -/
def Good (F : Fr) : Prop := F.ok = true ∨ F = zero
theorem Good.semi {F : Fr} (h : F.Good) : Semi F.s F.xs F.ys := by
  rcases h with h | rfl
  · exact semi_ok h
  · exact semi_zero
theorem ok_zero : zero.ok = false := by simp [ok, zero, okR]
theorem rt_no {z : Int} {b : Nat} : rt false z b = zero := by simp [rt, rtS, rtN, rtD, zero, up]
theorem rt_zero {o : Bool} {z : Int} : rt o z 0 = zero := by
  cases o with
  | false => exact rt_no
  | true => simp [rt, rtS, rtN, rtD, loS, loN, loD, okL_no_zero, zero, up]
theorem good_rt (o : Bool) (z : Int) (b : Nat) : (rt o z b).Good := by
  cases o with
  | false => exact .inr rt_no
  | true =>
    by_cases h : okL z.natAbs b = true
    · refine .inl ?_
      have hb : b ≠ 0 := fun e => by rw [e, okL_no_zero] at h; simp at h
      have hz : signed (decide (z < 0)) z.natAbs = z := by unfold signed; split <;> simp_all <;> omega
      obtain ⟨e1, e2, e3⟩ := low_some hz h
      have h' := h
      unfold okL at h'
      simp only [Bool.and_eq_true, decide_eq_true_eq] at h'
      obtain ⟨⟨_, l1⟩, l2⟩ := h'
      have hg : 0 < Nat.gcd z.natAbs b := Nat.gcd_pos_of_pos_right _ (by omega)
      have hd : 0 < b / Nat.gcd z.natAbs b := Nat.div_pos (Nat.gcd_le_right _ (by omega)) hg
      have q1 : okI (up (dig (z.natAbs / Nat.gcd z.natAbs b))) = true := okI_of_nats (dig_can _) (by omega)
      have q2 : okI (up (dig (b / Nat.gcd z.natAbs b))) = true := okI_of_nats (dig_can _) (by omega)
      have q3 := dig_pos_len hd
      unfold ok rt rtS rtN rtD
      simp only [if_true, Bool.true_and]
      rw [e1, e2, e3]
      unfold okR okB
      have t1 : toN (up (dig (z.natAbs / Nat.gcd z.natAbs b))) = dig (z.natAbs / Nat.gcd z.natAbs b) := toN_nats _
      have t2 : toN (up (dig (b / Nat.gcd z.natAbs b))) = dig (b / Nat.gcd z.natAbs b) := toN_nats _
      rw [q1, q2, t1, t2, val_dig, val_dig]
      have g1 : Nat.gcd (z.natAbs / Nat.gcd z.natAbs b) (b / Nat.gcd z.natAbs b) = 1 := by rw [Nat.gcd_div (Nat.gcd_dvd_left _ _) (Nat.gcd_dvd_right _ _), Nat.div_self hg]
      simp [up, q3, l1, l2, g1]
      rcases Nat.eq_zero_or_pos (dig (z.natAbs / Nat.gcd z.natAbs b)).length with h0 | h0
      · exact .inl (.inr (List.eq_nil_of_length_eq_zero h0))
      · exact .inr h0
    · refine .inr ?_
      rw [Bool.not_eq_true] at h
      simp [rt, rtS, rtN, rtD, loS, loN, loD, h, zero, up]
theorem good_add (F G : Fr) : (add F G).Good := good_rt _ _ _
theorem good_sub (F G : Fr) : (sub F G).Good := good_rt _ _ _
theorem good_mul (F G : Fr) : (mul F G).Good := good_rt _ _ _
theorem good_div (F G : Fr) : (div F G).Good := good_rt _ _ _
theorem good_len {F : Fr} (h : F.Good) : F.xs.length ≤ 24 ∧ F.ys.length ≤ 24 := ⟨h.semi.parts.2.2.2.2.1, h.semi.parts.2.2.2.1⟩
/-- What a method answers at valid fractions or zero values is what the function answers. -/
theorem lo_rt {F G : Fr} (hF : F.Good) (hG : G.Good) {z : Int} {b : Nat} (h0 : F = zero ∨ G = zero → b = 0) : (⟨loS z b, up (loN z b), up (loD z b)⟩ : Fr) = rt (okR F.s F.xs F.ys && okR G.s G.xs G.ys) z b := by
  have key : (okR F.s F.xs F.ys && okR G.s G.xs G.ys) = true ∨ b = 0 := by
    rcases hF with hF | hF
    · rcases hG with hG | hG
      · exact .inl (by rw [show okR F.s F.xs F.ys = true from hF, show okR G.s G.xs G.ys = true from hG]; rfl)
      · exact .inr (h0 (.inr hG))
    · exact .inr (h0 (.inl hF))
  rcases key with k | k
  · rw [k]; simp [rt, rtS, rtN, rtD]
  · rw [k, rt_zero]; simp [loS, loN, loD, okL_no_zero, zero, up]
end Fr
open Fr
/-- What a function leaves that answers a fraction. -/
def OwnF (F : Fr) (w : World) (en : Ending) (w' : World) : Prop :=
  ∃ a b, en = .returned (.agg #[.bool F.s, a, b]) ∧ Owns w' w.heap.size [(a, ints F.xs), (b, ints F.ys)] ∧ Below w.heap.size w w'
theorem OwnRR.f {F : Fr} {s : Bool} {xs ys : List Value} {w w' : World} {e : Ending} (h : OwnRR 3 s xs ys w e w') (h1 : s = F.s) (h2 : xs = ints F.xs) (h3 : ys = ints F.ys) : OwnF F w e w' := by
  obtain ⟨a, b, rfl, ha, hb, ap, _, bel⟩ := h
  subst h1 h2 h3
  refine ⟨a, b, rfl, ⟨?_, ?_⟩, bel⟩
  · intro p hp
    simp only [List.mem_cons, List.not_mem_nil, or_false] at hp
    rcases hp with rfl | rfl
    · exact ha
    · exact hb
  · simp only [List.pairwise_cons, List.mem_singleton, forall_eq, List.not_mem_nil, false_imp_iff, implies_true, List.Pairwise.nil, and_true]
    rcases ap with ap | ap
    · intro k h1; rw [ap] at h1; simp at h1
    · intro k h1 h2; exact ap (h1.trans h2.symm)
/-- A fraction that may be read. -/
structure FrA (w : World) (F : Fr) (a b : Value) : Prop where
  n : ArgV w a (ints F.xs)
  d : ArgV w b (ints F.ys)
theorem FrA.below {w w' : World} {F : Fr} {a b : Value} (h : FrA w F a b) (hb : Below w.heap.size w w') : FrA w' F a b := ⟨h.n.below hb, h.d.below hb⟩
theorem FrA.shape {w : World} {F : Fr} {a b : Value} (h : FrA w F a b) : ∃ A n c B m d, a = .slice A n c ∧ b = .slice B m d := by
  obtain ⟨⟨A, n, c, h1, _⟩, ⟨B, m, d, h2, _⟩⟩ := h
  exact ⟨A, n, c, B, m, d, h1, h2⟩
theorem Owns.fr {w : World} {base : Nat} {F : Fr} {a b : Value} {l : List (Value × List Value)} (h : Owns w base ((a, ints F.xs) :: (b, ints F.ys) :: l)) : FrA w F a b := ⟨(h.1 (a, ints F.xs) (by simp)).argV, (h.1 (b, ints F.ys) (by simp)).argV⟩
/-- A fraction among the rows of a chunk. -/
theorem Owns.frAt {w : World} {base : Nat} {l : Chunk} (h : Owns w base l) (k : Nat) {F : Fr} {a b : Value} (e1 : l[k]? = some (a, ints F.xs)) (e2 : l[k + 1]? = some (b, ints F.ys)) : FrA w F a b := ⟨h.argV k e1, h.argV (k + 1) e2⟩
theorem St.fr {w0 w : World} {bs : List (Nat × List Value)} {cs : List Chunk} (h : St w0 w bs cs) (i k : Nat) {l : Chunk} {F : Fr} {a b : Value} (e : cs[i]? = some l) (e1 : l[k]? = some (a, ints F.xs)) (e2 : l[k + 1]? = some (b, ints F.ys)) : FrA w F a b := (h.own i e).frAt k e1 e2
theorem St.frA {w0 w : World} {bs : List (Nat × List Value)} {cs : List Chunk} (h : St w0 w bs cs) {F : Fr} {a b : Value} (ha : FrA w0 F a b) : FrA w F a b := ha.below h.below
section
variable (F G : Fr) (a b c d : Value) (w : World)
theorem ratOk_s (h1 : FrA w F a b) :
    Calls Try.prog 26 #[.agg #[.bool F.s, a, b]] w fun e w' => e = .returned (.bool F.ok) ∧ Below w.heap.size w w' := by
  obtain ⟨⟨A, n, k, rfl, hA⟩, ⟨B, m, l, rfl, hB⟩⟩ := h1
  exact ratOk_spec F.s A n k F.xs B m l F.ys w hA hB
theorem isValid_f (h1 : FrA w F a b) :
    Calls Try.prog 51 #[.agg #[.bool F.s, a, b]] w fun e w' => e = .returned (.bool F.ok) ∧ Below w.heap.size w w' := by
  obtain ⟨⟨A, n, k, rfl, hA⟩, ⟨B, m, l, rfl, hB⟩⟩ := h1
  exact isValidR_any F.s A n k F.xs B m l F.ys w hA hB
theorem ratSign_s (h1 : FrA w F a b) :
    Calls Try.prog 25 #[.agg #[.bool F.s, a, b]] w fun e w' => e = .returned (.int .i64 F.sgn) ∧ Below w.heap.size w w' := by
  obtain ⟨⟨A, n, k, rfl, hA⟩, ⟨B, m, l, rfl, hB⟩⟩ := h1
  exact ratSign_spec F.s A n k F.xs B m l F.ys w hA hB
theorem ratSign_i (h1 : FrA w F a b) :
    Calls Try.prog 29 #[.agg #[.bool F.s, a, b]] w fun e w' => e = .returned (.int .i64 F.sgn) ∧ Below w.heap.size w w' := by
  obtain ⟨⟨A, n, k, rfl, hA⟩, ⟨B, m, l, rfl, hB⟩⟩ := h1
  exact ratSign_impl F.s A n k F.xs B m l F.ys w hA hB
theorem areValid_f (h1 : FrA w F a b) (h2 : FrA w G c d) :
    Calls Try.prog 30 #[.agg #[.bool F.s, a, b], .agg #[.bool G.s, c, d]] w fun e w' => e = .returned (.bool (F.ok && G.ok)) ∧ Below w.heap.size w w' := by
  obtain ⟨⟨A, n, k, rfl, hA⟩, ⟨B, m, l, rfl, hB⟩⟩ := h1
  obtain ⟨⟨C, p, q, rfl, hC⟩, ⟨E, i, j, rfl, hE⟩⟩ := h2
  exact areValid_any F.s A n k F.xs B m l F.ys G.s C p q G.xs E i j G.ys w hA hB hC hE
theorem ratEqual_s (h1 : FrA w F a b) (h2 : FrA w G c d) :
    Calls Try.prog 40 #[.agg #[.bool F.s, a, b], .agg #[.bool G.s, c, d]] w fun e w' => e = .returned (.bool (F.same G)) ∧ Below w.heap.size w w' := by
  obtain ⟨⟨A, n, k, rfl, hA⟩, ⟨B, m, l, rfl, hB⟩⟩ := h1
  obtain ⟨⟨C, p, q, rfl, hC⟩, ⟨E, i, j, rfl, hE⟩⟩ := h2
  exact ratEqual_spec F.s A n k F.xs B m l F.ys G.s C p q G.xs E i j G.ys w hA hB hC hE
theorem ratEqual_i (h1 : FrA w F a b) (h2 : FrA w G c d) :
    Calls Try.prog 63 #[.agg #[.bool F.s, a, b], .agg #[.bool G.s, c, d]] w fun e w' => e = .returned (.bool (F.same G)) ∧ Below w.heap.size w w' := by
  obtain ⟨⟨A, n, k, rfl, hA⟩, ⟨B, m, l, rfl, hB⟩⟩ := h1
  obtain ⟨⟨C, p, q, rfl, hC⟩, ⟨E, i, j, rfl, hE⟩⟩ := h2
  exact ratEqual_impl F.s A n k F.xs B m l F.ys G.s C p q G.xs E i j G.ys w hA hB hC hE
theorem ratFromInt_s (x : Int) (w : World) (hx : -9223372036854775808 ≤ x ∧ x ≤ 9223372036854775807) :
    Calls Try.prog 33 #[.int .i64 x] w (OwnF (Fr.of x) w) :=
  (ratFromInt_spec x w hx).mono fun _ _ h => h.f rfl rfl rfl
theorem ratFromInt_i (x : Int) (w : World) (hx : -9223372036854775808 ≤ x ∧ x ≤ 9223372036854775807) :
    Calls Try.prog 35 #[.int .i64 x] w (OwnF (Fr.of x) w) :=
  (ratFromInt_impl x w hx).mono fun _ _ h => h.f rfl rfl rfl
end
end Go.Proofs.Ytdilbhkdkppodaa
