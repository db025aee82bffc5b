/- A fraction, a link, a point among a law's arguments, opened. Conditions: none. -/
import Derived.Test.YtbikkbamcleinaaDoorProg
import Derived.Test.YtbikkbamcleinaaDoorB4
import Derived.Test.YtbikkbamcleinaaDoorB1
import Derived.Test.YtbikkbamcleinaaDoorB5
import Derived.Test.YtbikkbamcleinaaDoorB7
import Derived.Test.YtbikkbamcleinaaDoorB8
namespace Go.Proofs.YtbikkbamcleinaaDoor
open Go.RowKit Nt
set_option linter.unusedVariables false

/-- A fraction as it lies in memory: sign, limbs of the numerator, limbs of the denominator. -/
structure Fr where
  s : Bool
  xs : List Int
  ys : List Int
/-- Limbs as integers. -/
def up (l : List Nat) : List Int := l.map fun x : Nat => (x : Int)
theorem ints_up (l : List Nat) : ints (up l) = nats l := rfl
namespace Fr
def zero : Fr := ⟨false, [], []⟩
def ok (F : Fr) : Bool := okR F.s F.xs F.ys
/-- z / b in lowest terms where that is right and small enough, else the zero value. -/
def rt (ok : Bool) (z : Int) (b : Nat) : Fr := ⟨rtS ok z b, up (rtN ok z b), up (rtD ok z b)⟩
def of (x : Int) : Fr := ⟨sgZ x, up (magZ x), up [1]⟩
def add (F G : Fr) : Fr := rt (okR F.s F.xs F.ys && okR G.s G.xs G.ys) (zOf F.s F.xs * (val (toN G.ys) : Int) + zOf G.s G.xs * (val (toN F.ys) : Int)) (val (toN F.ys) * val (toN G.ys))
def sub (F G : Fr) : Fr := rt (okR F.s F.xs F.ys && okR G.s G.xs G.ys) (zOf F.s F.xs * (val (toN G.ys) : Int) - zOf G.s G.xs * (val (toN F.ys) : Int)) (val (toN F.ys) * val (toN G.ys))
def mul (F G : Fr) : Fr := rt (okR F.s F.xs F.ys && okR G.s G.xs G.ys) (zOf F.s F.xs * zOf G.s G.xs) (val (toN F.ys) * val (toN G.ys))
def div (F G : Fr) : Fr := rt (okR F.s F.xs F.ys && okR G.s G.xs G.ys) (signed (F.s != G.s) (val (toN F.xs) * val (toN G.ys))) (val (toN F.ys) * val (toN G.xs))
def sgn (F : Fr) : Int := sgnR F.s F.xs F.ys
/-- Valid or the zero value. -/
def Good (F : Fr) : Prop := F.ok = true ∨ F = zero
theorem Good.semi {F : Fr} (h : F.Good) : Semi F.s F.xs F.ys := by
  rcases h with h | rfl
  · exact semi_ok h
  · exact semi_zero
theorem ok_zero : zero.ok = false := by simp [ok, zero, okR]
theorem rt_no {z : Int} {b : Nat} : rt false z b = zero := by simp [rt, rtS, rtN, rtD, zero, up]
theorem rt_zero {o : Bool} {z : Int} : rt o z 0 = zero := by
  cases o with
  | false => exact rt_no
  | true => simp [rt, rtS, rtN, rtD, loS, loN, loD, okL_no_zero, zero, up]
theorem good_rt (o : Bool) (z : Int) (b : Nat) : (rt o z b).Good := by
  cases o with
  | false => exact .inr rt_no
  | true =>
    by_cases h : okL z.natAbs b = true
    · refine .inl ?_
      have hb : b ≠ 0 := fun e => by rw [e, okL_no_zero] at h; simp at h
      have hz : signed (decide (z < 0)) z.natAbs = z := by unfold signed; split <;> simp_all <;> omega
      obtain ⟨e1, e2, e3⟩ := low_some hz h
      have h' := h
      unfold okL at h'
      simp only [Bool.and_eq_true, decide_eq_true_eq] at h'
      obtain ⟨⟨_, l1⟩, l2⟩ := h'
      have hg : 0 < Nat.gcd z.natAbs b := Nat.gcd_pos_of_pos_right _ (by omega)
      have hd : 0 < b / Nat.gcd z.natAbs b := Nat.div_pos (Nat.gcd_le_right _ (by omega)) hg
      have q1 : okI (up (dig (z.natAbs / Nat.gcd z.natAbs b))) = true := okI_of_nats (dig_can _) (by omega)
      have q2 : okI (up (dig (b / Nat.gcd z.natAbs b))) = true := okI_of_nats (dig_can _) (by omega)
      have q3 := dig_pos_len hd
      unfold ok rt rtS rtN rtD
      simp only [if_true, Bool.true_and]
      rw [e1, e2, e3]
      unfold okR okB
      have t1 : toN (up (dig (z.natAbs / Nat.gcd z.natAbs b))) = dig (z.natAbs / Nat.gcd z.natAbs b) := toN_nats _
      have t2 : toN (up (dig (b / Nat.gcd z.natAbs b))) = dig (b / Nat.gcd z.natAbs b) := toN_nats _
      rw [q1, q2, t1, t2, val_dig, val_dig]
      have g1 : Nat.gcd (z.natAbs / Nat.gcd z.natAbs b) (b / Nat.gcd z.natAbs b) = 1 := by rw [Nat.gcd_div (Nat.gcd_dvd_left _ _) (Nat.gcd_dvd_right _ _), Nat.div_self hg]
      simp [up, q3, l1, l2, g1]
      rcases Nat.eq_zero_or_pos (dig (z.natAbs / Nat.gcd z.natAbs b)).length with h0 | h0
      · exact .inl (.inr (List.eq_nil_of_length_eq_zero h0))
      · exact .inr h0
    · refine .inr ?_
      rw [Bool.not_eq_true] at h
      simp [rt, rtS, rtN, rtD, loS, loN, loD, h, zero, up]
theorem good_add (F G : Fr) : (add F G).Good := good_rt _ _ _
theorem good_sub (F G : Fr) : (sub F G).Good := good_rt _ _ _
theorem good_mul (F G : Fr) : (mul F G).Good := good_rt _ _ _
theorem good_div (F G : Fr) : (div F G).Good := good_rt _ _ _
theorem good_len {F : Fr} (h : F.Good) : F.xs.length ≤ 24 ∧ F.ys.length ≤ 24 := ⟨h.semi.parts.2.2.2.2.1, h.semi.parts.2.2.2.1⟩
/-- What a method answers at valid fractions or zero values is what the function answers. -/
theorem lo_rt {F G : Fr} (hF : F.Good) (hG : G.Good) {z : Int} {b : Nat} (h0 : F = zero ∨ G = zero → b = 0) : (⟨loS z b, up (loN z b), up (loD z b)⟩ : Fr) = rt (okR F.s F.xs F.ys && okR G.s G.xs G.ys) z b := by
  have key : (okR F.s F.xs F.ys && okR G.s G.xs G.ys) = true ∨ b = 0 := by
    rcases hF with hF | hF
    · rcases hG with hG | hG
      · exact .inl (by rw [show okR F.s F.xs F.ys = true from hF, show okR G.s G.xs G.ys = true from hG]; rfl)
      · exact .inr (h0 (.inr hG))
    · exact .inr (h0 (.inl hF))
  rcases key with k | k
  · rw [k]; simp [rt, rtS, rtN, rtD]
  · rw [k, rt_zero]; simp [loS, loN, loD, okL_no_zero, zero, up]
end Fr
open Fr
/-- What a function leaves that answers a fraction. -/
def OwnF (F : Fr) (w : World) (en : Ending) (w' : World) : Prop :=
  ∃ a b, en = .returned (.agg #[.bool F.s, a, b]) ∧ Owns w' w.heap.size [(a, ints F.xs), (b, ints F.ys)] ∧ Below w.heap.size w w'
theorem OwnRR.f {F : Fr} {s : Bool} {xs ys : List Value} {w w' : World} {e : Ending} (h : OwnRR 3 s xs ys w e w') (h1 : s = F.s) (h2 : xs = ints F.xs) (h3 : ys = ints F.ys) : OwnF F w e w' := by
  obtain ⟨a, b, rfl, ha, hb, ap, _, bel⟩ := h
  subst h1 h2 h3
  refine ⟨a, b, rfl, ⟨?_, ?_⟩, bel⟩
  · intro p hp
    simp only [List.mem_cons, List.not_mem_nil, or_false] at hp
    rcases hp with rfl | rfl
    · exact ha
    · exact hb
  · simp only [List.pairwise_cons, List.mem_singleton, forall_eq, List.not_mem_nil, false_imp_iff, implies_true, List.Pairwise.nil, and_true]
    rcases ap with ap | ap
    · intro k h1; rw [ap] at h1; simp at h1
    · intro k h1 h2; exact ap (h1.trans h2.symm)
/-- A fraction that may be read. -/
structure FrA (w : World) (F : Fr) (a b : Value) : Prop where
  n : ArgV w a (ints F.xs)
  d : ArgV w b (ints F.ys)
theorem FrA.below {w w' : World} {F : Fr} {a b : Value} (h : FrA w F a b) (hb : Below w.heap.size w w') : FrA w' F a b := ⟨h.n.below hb, h.d.below hb⟩
theorem FrA.shape {w : World} {F : Fr} {a b : Value} (h : FrA w F a b) : ∃ A n c B m d, a = .slice A n c ∧ b = .slice B m d := by
  obtain ⟨⟨A, n, c, h1, _⟩, ⟨B, m, d, h2, _⟩⟩ := h
  exact ⟨A, n, c, B, m, d, h1, h2⟩
theorem Owns.fr {w : World} {base : Nat} {F : Fr} {a b : Value} {l : List (Value × List Value)} (h : Owns w base ((a, ints F.xs) :: (b, ints F.ys) :: l)) : FrA w F a b := ⟨(h.1 (a, ints F.xs) (by simp)).argV, (h.1 (b, ints F.ys) (by simp)).argV⟩
/-- A fraction among the rows of a chunk. -/
theorem Owns.frAt {w : World} {base : Nat} {l : Chunk} (h : Owns w base l) (k : Nat) {F : Fr} {a b : Value} (e1 : l[k]? = some (a, ints F.xs)) (e2 : l[k + 1]? = some (b, ints F.ys)) : FrA w F a b := ⟨h.argV k e1, h.argV (k + 1) e2⟩
theorem St.fr {w0 w : World} {bs : List (Nat × List Value)} {cs : List Chunk} (h : St w0 w bs cs) (i k : Nat) {l : Chunk} {F : Fr} {a b : Value} (e : cs[i]? = some l) (e1 : l[k]? = some (a, ints F.xs)) (e2 : l[k + 1]? = some (b, ints F.ys)) : FrA w F a b := (h.own i e).frAt k e1 e2
theorem St.frA {w0 w : World} {bs : List (Nat × List Value)} {cs : List Chunk} (h : St w0 w bs cs) {F : Fr} {a b : Value} (ha : FrA w0 F a b) : FrA w F a b := ha.below h.below
section
variable (F G : Fr) (a b c d : Value) (w : World)
theorem ratOk_s (h1 : FrA w F a b) :
    Calls Tryd.prog 21 #[.agg #[.bool F.s, a, b]] w fun e w' => e = .returned (.bool F.ok) ∧ Below w.heap.size w w' := by
  obtain ⟨⟨A, n, k, rfl, hA⟩, ⟨B, m, l, rfl, hB⟩⟩ := h1
  exact ratOk_spec F.s A n k F.xs B m l F.ys w hA hB
theorem isValid_f (h1 : FrA w F a b) :
    Calls Tryd.prog 26 #[.agg #[.bool F.s, a, b]] w fun e w' => e = .returned (.bool F.ok) ∧ Below w.heap.size w w' := by
  obtain ⟨⟨A, n, k, rfl, hA⟩, ⟨B, m, l, rfl, hB⟩⟩ := h1
  exact isValidR_any F.s A n k F.xs B m l F.ys w hA hB
end
end Go.Proofs.YtbikkbamcleinaaDoor
namespace Go.Proofs.YtbikkbamcleinaaDoor
open Go.RowKit Nt Fr
set_option linter.unusedVariables false

theorem ret_b {x y : Bool} {w w' : World} (h : x = y) (hb : Below w.heap.size w w') : Ending.returned (.bool x) = .returned (.bool y) ∧ Below w.heap.size w w' := ⟨by rw [h], hb⟩
/-- Is it a node? -/
def nodeK (n : Int) : Bool := decide (0 ≤ n ∧ n < 10)
/-- Is it a link? -/
def okK (A B : Int) (P Q R : Fr) : Bool := decide (0 ≤ A ∧ A < 10) && (decide (0 ≤ B ∧ B < 10) && (decide (A < B) && (decide (0 < P.sgn) && (Q.ok && R.ok))))
theorem okK_1 {A B : Int} {P Q R : Fr} (h : ¬ (0 ≤ A ∧ A < 10)) : false = okK A B P Q R := by unfold okK; rw [decide_eq_false h]; rfl
theorem okK_2 {A B : Int} {P Q R : Fr} (h : ¬ (0 ≤ B ∧ B < 10)) : false = okK A B P Q R := by unfold okK; rw [decide_eq_false h]; simp
theorem okK_3 {A B : Int} {P Q R : Fr} (h : ¬ A < B) : false = okK A B P Q R := by unfold okK; rw [decide_eq_false h]; simp
theorem okK_4 {A B : Int} {P Q R : Fr} (h : ¬ 0 < P.sgn) : false = okK A B P Q R := by unfold okK; rw [decide_eq_false h]; simp
theorem okK_5 {A B : Int} {P Q R : Fr} (h1 : 0 ≤ A ∧ A < 10) (h2 : 0 ≤ B ∧ B < 10) (h3 : A < B) (h4 : 0 < P.sgn) : (Q.ok && R.ok) = okK A B P Q R := by unfold okK; rw [decide_eq_true h1, decide_eq_true h2, decide_eq_true h3, decide_eq_true h4]; rfl
theorem okK_parts {A B : Int} {P Q R : Fr} (h : okK A B P Q R = true) : (0 ≤ A ∧ A < 10) ∧ (0 ≤ B ∧ B < 10) ∧ A < B ∧ 0 < P.sgn ∧ Q.ok = true ∧ R.ok = true := by
  unfold okK at h
  simpa only [Bool.and_eq_true, decide_eq_true_eq] using h
theorem sgn_ok {P : Fr} (h : 0 < P.sgn) : P.ok = true := by
  cases hk : P.ok with
  | true => rfl
  | false => unfold Fr.sgn at h; rw [sgnR_no hk] at h; exact absurd h (by decide)
/-- A link that may be read. -/
structure LkA (w : World) (P Q R : Fr) (p0 p1 q0 q1 r0 r1 : Value) : Prop where
  p : FrA w P p0 p1
  q : FrA w Q q0 q1
  r : FrA w R r0 r1
theorem LkA.below {w w' : World} {P Q R : Fr} {p0 p1 q0 q1 r0 r1 : Value} (h : LkA w P Q R p0 p1 q0 q1 r0 r1) (hb : Below w.heap.size w w') : LkA w' P Q R p0 p1 q0 q1 r0 r1 := ⟨h.p.below hb, h.q.below hb, h.r.below hb⟩
/-- The rows of a link. -/
def rowsK (P Q R : Fr) (p0 p1 q0 q1 r0 r1 : Value) : Chunk := [(p0, ints P.xs), (p1, ints P.ys), (q0, ints Q.xs), (q1, ints Q.ys), (r0, ints R.xs), (r1, ints R.ys)]
theorem Owns.lk {w : World} {base : Nat} {P Q R : Fr} {p0 p1 q0 q1 r0 r1 : Value} (h : Owns w base (rowsK P Q R p0 p1 q0 q1 r0 r1)) : LkA w P Q R p0 p1 q0 q1 r0 r1 :=
  ⟨h.frAt 0 rfl rfl, h.frAt 2 rfl rfl, h.frAt 4 rfl rfl⟩
theorem St.lk {w0 w : World} {bs : List (Nat × List Value)} {cs : List Chunk} (h : St w0 w bs cs) (k : Nat) {P Q R : Fr} {p0 p1 q0 q1 r0 r1 : Value} (e : cs[k]? = some (rowsK P Q R p0 p1 q0 q1 r0 r1)) : LkA w P Q R p0 p1 q0 q1 r0 r1 := (h.own k e).lk
theorem St.lkA {w0 w : World} {bs : List (Nat × List Value)} {cs : List Chunk} (h : St w0 w bs cs) {P Q R : Fr} {p0 p1 q0 q1 r0 r1 : Value} (ha : LkA w0 P Q R p0 p1 q0 q1 r0 r1) : LkA w P Q R p0 p1 q0 q1 r0 r1 := ha.below h.below
/-- What a function leaves that answers a link. -/
def OwnK (A B : Int) (P Q R : Fr) (w : World) (en : Ending) (w' : World) : Prop :=
  ∃ p0 p1 q0 q1 r0 r1, en = .returned (.agg #[.int .i64 A, .int .i64 B, .bool P.s, p0, p1, .bool Q.s, q0, q1, .bool R.s, r0, r1]) ∧ Owns w' w.heap.size (rowsK P Q R p0 p1 q0 q1 r0 r1) ∧ Below w.heap.size w w'
/-- .. and a report. -/
def OwnKB (A B : Int) (P Q R : Fr) (ok : Bool) (w : World) (en : Ending) (w' : World) : Prop :=
  ∃ p0 p1 q0 q1 r0 r1, en = .returned (.tuple #[.agg #[.int .i64 A, .int .i64 B, .bool P.s, p0, p1, .bool Q.s, q0, q1, .bool R.s, r0, r1], .bool ok]) ∧ Owns w' w.heap.size (rowsK P Q R p0 p1 q0 q1 r0 r1) ∧ Below w.heap.size w w'
/-- May a link be made of these? -/
def okN (a b k x y : Int) : Bool := decide ((0 ≤ a ∧ a < 10) ∧ (0 ≤ b ∧ b < 10) ∧ a ≠ b ∧ (1 ≤ k ∧ k ≤ 9999) ∧ (-1000000 ≤ x ∧ x ≤ 1000000) ∧ (-1000000 ≤ y ∧ y ≤ 1000000))
def nlA (a b k x y : Int) : Int := if okN a b k x y = true then (if b < a then b else a) else 0
def nlB (a b k x y : Int) : Int := if okN a b k x y = true then (if b < a then a else b) else 0
def nlP (a b k x y : Int) : Fr := if okN a b k x y = true then Fr.of k else Fr.zero
def nlQ (a b k x y : Int) : Fr := if okN a b k x y = true then (if b < a then Fr.of (-x) else Fr.of x) else Fr.zero
def nlR (a b k x y : Int) : Fr := if okN a b k x y = true then (if b < a then Fr.of (-y) else Fr.of y) else Fr.zero
theorem nl_no {a b k x y : Int} (h : okN a b k x y = false) : nlA a b k x y = 0 ∧ nlB a b k x y = 0 ∧ nlP a b k x y = Fr.zero ∧ nlQ a b k x y = Fr.zero ∧ nlR a b k x y = Fr.zero := by simp [nlA, nlB, nlP, nlQ, nlR, h]
theorem nl_gt {a b k x y : Int} (h : okN a b k x y = true) (hb : b < a) : nlA a b k x y = b ∧ nlB a b k x y = a ∧ nlP a b k x y = Fr.of k ∧ nlQ a b k x y = Fr.of (-x) ∧ nlR a b k x y = Fr.of (-y) := by simp [nlA, nlB, nlP, nlQ, nlR, h, hb]
theorem nl_le {a b k x y : Int} (h : okN a b k x y = true) (hb : ¬ b < a) : nlA a b k x y = a ∧ nlB a b k x y = b ∧ nlP a b k x y = Fr.of k ∧ nlQ a b k x y = Fr.of x ∧ nlR a b k x y = Fr.of y := by simp [nlA, nlB, nlP, nlQ, nlR, h, hb]
theorem okN_of {a b k x y : Int} (h : (0 ≤ a ∧ a < 10) ∧ (0 ≤ b ∧ b < 10) ∧ a ≠ b ∧ (1 ≤ k ∧ k ≤ 9999) ∧ (-1000000 ≤ x ∧ x ≤ 1000000) ∧ (-1000000 ≤ y ∧ y ≤ 1000000)) : okN a b k x y = true := decide_eq_true h
theorem okN_not {a b k x y : Int} (h : ¬ ((0 ≤ a ∧ a < 10) ∧ (0 ≤ b ∧ b < 10) ∧ a ≠ b ∧ (1 ≤ k ∧ k ≤ 9999) ∧ (-1000000 ≤ x ∧ x ≤ 1000000) ∧ (-1000000 ≤ y ∧ y ≤ 1000000))) : okN a b k x y = false := decide_eq_false h
def rowsP (X Y : Fr) (p0 p1 q0 q1 : Value) : Chunk := [(p0, ints X.xs), (p1, ints X.ys), (q0, ints Y.xs), (q1, ints Y.ys)]
theorem of_len (x : Int) : (Fr.of x).xs.length ≤ 60 ∧ (Fr.of x).ys.length = 1 := ⟨by simp only [Fr.of, up, List.length_map]; exact capd_len _, rfl⟩
theorem nl_len (a b k x y : Int) : ((nlP a b k x y).xs.length ≤ 60 ∧ (nlP a b k x y).ys.length ≤ 1) ∧ ((nlQ a b k x y).xs.length ≤ 60 ∧ (nlQ a b k x y).ys.length ≤ 1) ∧ ((nlR a b k x y).xs.length ≤ 60 ∧ (nlR a b k x y).ys.length ≤ 1) := by
  have h1 := of_len k
  have h2 := of_len x
  have h3 := of_len (-x)
  have h4 := of_len y
  have h5 := of_len (-y)
  have z1 : Fr.zero.xs.length = 0 := rfl
  have z2 : Fr.zero.ys.length = 0 := rfl
  unfold nlP nlQ nlR
  refine ⟨?_, ?_, ?_⟩ <;> (repeat' split) <;> omega
end Go.Proofs.YtbikkbamcleinaaDoor
namespace Go.Proofs.YtbikkbamcleinaaDoor
open Go.RowKit Nt Fr
set_option linter.unusedVariables false

/-- A slice that came in, read as X. -/
def ArgI (w : World) (v : Value) (X : List Value) : Prop := ∃ A n c, v = .slice A n c ∧ VRow w A n X ∧ n ≤ maxLen
theorem ArgV.i {w : World} {v : Value} {X : List Value} (h : ArgV w v X) : ArgI w v X := by
  obtain ⟨A, n, c, rfl, h⟩ := h
  exact ⟨A, n, c, rfl, h.1, h.max⟩
theorem ArgI.below {w w' : World} {v : Value} {X : List Value} (h : ArgI w v X) (hb : Below w.heap.size w w') : ArgI w' v X := by
  obtain ⟨A, n, c, rfl, h, hn⟩ := h
  exact ⟨A, n, c, rfl, h.below hb (Nat.le_refl _), hn⟩
theorem ArgI.of {w : World} {A : Option Addr} {n c : Nat} {zs : List Int} (h : IsInts .i64 w A n c zs) : ArgI w (.slice A n c) (ints zs) := ⟨A, n, c, rfl, h.1, Nat.le_trans h.2.1 h.2.2.1⟩
structure FrI (w : World) (F : Fr) (a b : Value) : Prop where
  n : ArgI w a (ints F.xs)
  d : ArgI w b (ints F.ys)
theorem FrA.i {w : World} {F : Fr} {a b : Value} (h : FrA w F a b) : FrI w F a b := ⟨h.n.i, h.d.i⟩
theorem FrI.below {w w' : World} {F : Fr} {a b : Value} (h : FrI w F a b) (hb : Below w.heap.size w w') : FrI w' F a b := ⟨h.n.below hb, h.d.below hb⟩
structure LkI (w : World) (P Q R : Fr) (p0 p1 q0 q1 r0 r1 : Value) : Prop where
  p : FrI w P p0 p1
  q : FrI w Q q0 q1
  r : FrI w R r0 r1
theorem LkA.i {w : World} {P Q R : Fr} {p0 p1 q0 q1 r0 r1 : Value} (h : LkA w P Q R p0 p1 q0 q1 r0 r1) : LkI w P Q R p0 p1 q0 q1 r0 r1 := ⟨h.p.i, h.q.i, h.r.i⟩
theorem LkI.below {w w' : World} {P Q R : Fr} {p0 p1 q0 q1 r0 r1 : Value} (h : LkI w P Q R p0 p1 q0 q1 r0 r1) (hb : Below w.heap.size w w') : LkI w' P Q R p0 p1 q0 q1 r0 r1 := ⟨h.p.below hb, h.q.below hb, h.r.below hb⟩
theorem St.frI {w0 w : World} {bs : List (Nat × List Value)} {cs : List Chunk} (h : St w0 w bs cs) {F : Fr} {a b : Value} (ha : FrI w0 F a b) : FrI w F a b := ha.below h.below
theorem St.lkI {w0 w : World} {bs : List (Nat × List Value)} {cs : List Chunk} (h : St w0 w bs cs) {P Q R : Fr} {p0 p1 q0 q1 r0 r1 : Value} (ha : LkI w0 P Q R p0 p1 q0 q1 r0 r1) : LkI w P Q R p0 p1 q0 q1 r0 r1 := ha.below h.below
/-- How many limbs. -/
def Fr.len (F : Fr) : Nat := F.xs.length + F.ys.length
theorem Fr.Good.len {F : Fr} (h : F.Good) : F.len ≤ 48 := by have := good_len h; unfold Fr.len; omega
theorem ArgI.len {w : World} {A : Option Addr} {n c : Nat} {zs : List Int} (h : VRow w A n (ints zs)) : n = zs.length := by have := h.1; rw [ints_len] at this; omega
/-- Marks over the rows of a chunk. -/
def markL : Nat → Chunk → Chunk
  | _, [] => []
  | k, (v, X) :: r => (v, marksI k X.length) :: markL (k + X.length) r
def lenL : Chunk → Nat
  | [] => 0
  | (_, X) :: r => X.length + lenL r
theorem lenL_app (l m : Chunk) : lenL (l ++ m) = lenL l + lenL m := by
  induction l with
  | nil => simp [lenL]
  | cons p r ih => obtain ⟨v, X⟩ := p; simp [lenL, ih]; omega
theorem markL_app (l m : Chunk) (k : Nat) : markL k (l ++ m) = markL k l ++ markL (k + lenL l) m := by
  induction l generalizing k with
  | nil => simp [markL, lenL]
  | cons p r ih => obtain ⟨v, X⟩ := p; simp [markL, lenL, ih, Nat.add_assoc]
theorem markL_fst (l : Chunk) (k : Nat) : (markL k l).map Prod.fst = l.map Prod.fst := by
  induction l generalizing k with
  | nil => rfl
  | cons p r ih => obtain ⟨v, X⟩ := p; simp [markL, ih]
theorem markL_len (l : Chunk) (k : Nat) : lenL (markL k l) = lenL l := by
  induction l generalizing k with
  | nil => rfl
  | cons p r ih => obtain ⟨v, X⟩ := p; simp [markL, lenL, ih, marksI_len]
theorem blks_app (l m : Chunk) : blks (l ++ m) = blks l ++ blks m := by simp [blks]
/-- What marking a chunk leaves. -/
def Marked (l : Chunk) (k base : Nat) (w : World) (e : Ending) (w' : World) : Prop :=
  e = .returned (.int .i64 ((k + lenL l : Nat) : Int)) ∧ Owns w' base (markL k l) ∧ Turned w w' (blks l)
theorem St.marked {w0 w w' : World} {bs : List (Nat × List Value)} {cs : List Chunk} (h : St w0 w bs cs) (i : Nat) {l : Chunk} {k : Nat} (e : cs[i]? = some l) (ho : Owns w' w0.heap.size (markL k l)) (ht : Turned w w' (blks l)) : St w0 w' bs (cs.set i (markL k l)) := h.mark i e (markL_fst l k) ho ht
section
variable (F : Fr) (a b : Value) (w : World)
theorem szRat_f (k : Int) (h0 : 0 ≤ k) (h1 : k ≤ 1048576) (h : FrI w F a b) : Calls Tryd.prog 20 #[.agg #[.bool F.s, a, b], .int .i64 k] w fun e w' => e = .returned (.int .i64 (szOf k F.len)) ∧ Below w.heap.size w w' := by
  obtain ⟨⟨A, n, c, rfl, hA, hn⟩, ⟨B, m, d, rfl, hB, hm⟩⟩ := h
  have e1 := ArgI.len (c := c) hA
  have e2 := ArgI.len (c := d) hB
  have := szRat_any F.s A n c B m d k w h0 h1 (by unfold maxLen at hn; omega) (by unfold maxLen at hm; omega)
  rw [e1, e2] at this ⊢
  exact this
theorem toRat_f (h : FrI w F a b) (hl : F.len ≤ 1048576) : Calls Tryd.prog 25 #[.agg #[.bool F.s, a, b]] w (OwnF F w) := by
  obtain ⟨⟨A, n, c, rfl, hA, hn⟩, ⟨B, m, d, rfl, hB, hm⟩⟩ := h
  have e1 := ArgI.len (c := c) hA
  have e2 := ArgI.len (c := d) hB
  unfold Fr.len at hl
  exact (toRat_any F.s A n c F.xs B m d F.ys w hA hB (by omega) (by omega)).mono fun _ _ h => h.f rfl rfl rfl
theorem eqRat_f (c d : Value) (h : FrI w F a b) (h2 : FrI w F c d) : Calls Tryd.prog 32 #[.agg #[.bool F.s, a, b], .agg #[.bool F.s, c, d]] w fun e w' => e = .returned (.bool true) ∧ Below w.heap.size w w' := by
  obtain ⟨⟨A, n, x, rfl, hA, hn⟩, ⟨B, m, y, rfl, hB, hm⟩⟩ := h
  obtain ⟨⟨C, p, z, rfl, hC, hp⟩, ⟨E, q, u, rfl, hE, hq⟩⟩ := h2
  have e1 := ArgI.len (c := x) hA
  have e2 := ArgI.len (c := y) hB
  obtain rfl : p = n := by have := ArgI.len (c := z) hC; omega
  obtain rfl : q = m := by have := ArgI.len (c := u) hE; omega
  exact eqRat_same F.s A C p x z F.xs B E q y u F.ys w hA hC hB hE hn hm
end
theorem newLink_len (a b k x y : Int) : (nlP a b k x y).len + (nlQ a b k x y).len + (nlR a b k x y).len ≤ 1048576 := by
  have := nl_len a b k x y
  unfold Fr.len
  omega
end Go.Proofs.YtbikkbamcleinaaDoor
namespace Go.Proofs.YtbikkbamcleinaaDoor
open Go.RowKit Nt Fr
set_option linter.unusedVariables false

end Go.Proofs.YtbikkbamcleinaaDoor
namespace Go.Proofs.YtbikkbamcleinaaDoor
open Go.RowKit Nt Fr
set_option linter.unusedVariables false

theorem Owns.part {w : World} {base : Nat} {l : Chunk} (h : Owns w base l) (a b c : Chunk) (e : l = a ++ (b ++ c)) : Owns w base b := by subst e; exact h.right.left
theorem Owns.head {w : World} {base : Nat} {l : Chunk} (h : Owns w base l) (a c : Chunk) (e : l = a ++ c) : Owns w base a := by subst e; exact h.left
/-- Two chunks, the first marked, then the second. -/
theorem Marked.join {l m : Chunk} {k base : Nat} {w w1 w2 : World} (h : Owns w base (l ++ m)) (h1 : Owns w1 base (markL k l)) (t1 : Turned w w1 (blks l)) (h2 : Owns w2 base (markL (k + lenL l) m)) (t2 : Turned w1 w2 (blks m)) :
    Owns w2 base (markL k (l ++ m)) ∧ Turned w w2 (blks (l ++ m)) := by
  have hf : FarL (markL k l) (markL (k + lenL l) m) := by
    intro p hp q hq
    have a : p.1 ∈ l.map Prod.fst := by rw [← markL_fst l k]; exact List.mem_map_of_mem hp
    have b : q.1 ∈ m.map Prod.fst := by rw [← markL_fst m (k + lenL l)]; exact List.mem_map_of_mem hq
    obtain ⟨p', hp', e1⟩ := List.mem_map.mp a
    obtain ⟨q', hq', e2⟩ := List.mem_map.mp b
    rw [← e1, ← e2]
    exact h.far p' hp' q' hq'
  refine ⟨?_, by rw [blks_app]; exact t1.trans t2⟩
  rw [markL_app]
  refine Owns.app ⟨fun p hp => t2.own (h1.1 p hp) fun x hx => ?_, h1.2⟩ h2 hf
  have : x ∈ blks (markL (k + lenL l) m) := by
    have e : blks (markL (k + lenL l) m) = blks m := by
      unfold blks
      have := congrArg (List.map Value.ownBlock) (markL_fst m (k + lenL l))
      simpa [List.map_map, Function.comp_def] using this
    rw [e]; exact hx
  obtain ⟨q, hq, rfl⟩ := List.mem_map.mp this
  exact hf p hp q hq
theorem Turned.owns {w w' : World} {base : Nat} {l m : Chunk} (t : Turned w w' (blks l)) (h : Owns w base m) (hf : FarL m l) : Owns w' base m :=
  ⟨fun p hp => t.own (h.1 p hp) fun x hx => by obtain ⟨q, hq, rfl⟩ := List.mem_map.mp hx; exact hf p hp q hq, h.2⟩
theorem Below.turned0 {w0 w w' : World} {bl : List (Option Nat)} (h : Below w0.heap.size w0 w) (t : Turned w w' bl) : Turned w0 w' bl :=
  ⟨t.os.trans h.os, t.tape.trans h.tape, t.output.trans h.output, Nat.le_trans h.size t.size, fun k hk hn => (t.block k (Nat.lt_of_lt_of_le hk h.size) hn).trans (h.block k hk)⟩
end Go.Proofs.YtbikkbamcleinaaDoor
namespace Go.Proofs.YtbikkbamcleinaaDoor
open Go.RowKit Nt Fr
set_option linter.unusedVariables false

/-- The sum of two squares. -/
def Fr.sq (F G : Fr) : Fr := (F.mul F).add (G.mul G)
theorem St.retF {w w' : World} {bs : List (Nat × List Value)} {cs : List Chunk} (h : St w w' bs cs) (i : Nat) {F : Fr} {a b : Value} (e : cs[i]? = some [(a, ints F.xs), (b, ints F.ys)]) : OwnF F w (.returned (.agg #[.bool F.s, a, b])) w' := ⟨a, b, rfl, h.own i e, h.below⟩
theorem St.retZ {w w' : World} {bs : List (Nat × List Value)} {cs : List Chunk} (h : St w w' bs cs) : OwnF Fr.zero w (.returned (.agg #[.bool false, .slice none 0 0, .slice none 0 0])) w' := ⟨_, _, rfl, Owns.nils _ _ 2, h.below⟩
theorem retF_simp {F : Fr} {a b : Value} : (Value.agg #[.bool F.s, a, b]) = Value.agg #[.bool F.s, a, b] := rfl
/-- A point that may be read. -/
structure PtA (w : World) (X Y : Fr) (x0 x1 y0 y1 : Value) : Prop where
  x : FrA w X x0 x1
  y : FrA w Y y0 y1
theorem PtA.below {w w' : World} {X Y : Fr} {x0 x1 y0 y1 : Value} (h : PtA w X Y x0 x1 y0 y1) (hb : Below w.heap.size w w') : PtA w' X Y x0 x1 y0 y1 := ⟨h.x.below hb, h.y.below hb⟩
theorem St.ptA {w0 w : World} {bs : List (Nat × List Value)} {cs : List Chunk} (h : St w0 w bs cs) {X Y : Fr} {x0 x1 y0 y1 : Value} (ha : PtA w0 X Y x0 x1 y0 y1) : PtA w X Y x0 x1 y0 y1 := ha.below h.below
theorem St.pt {w0 w : World} {bs : List (Nat × List Value)} {cs : List Chunk} (h : St w0 w bs cs) (k : Nat) {X Y : Fr} {x0 x1 y0 y1 : Value} (e : cs[k]? = some (rowsP X Y x0 x1 y0 y1)) : PtA w X Y x0 x1 y0 y1 := ⟨(h.own k e).frAt 0 rfl rfl, (h.own k e).frAt 2 rfl rfl⟩
/-- The energy of a link. -/
def leF (A B : Int) (P Q R X Y U V : Fr) : Fr := if okK A B P Q R = true then P.mul (((U.sub X).sub Q).sq ((V.sub Y).sub R)) else Fr.zero
theorem leF_good (A B : Int) (P Q R X Y U V : Fr) : (leF A B P Q R X Y U V).Good := by unfold leF; split; exact good_mul _ _; exact .inr rfl
end Go.Proofs.YtbikkbamcleinaaDoor
namespace Go.Proofs.YtbikkbamcleinaaDoor
open Go.RowKit Nt Fr
set_option linter.unusedVariables false

structure PtI (w : World) (X Y : Fr) (x0 x1 y0 y1 : Value) : Prop where
  x : FrI w X x0 x1
  y : FrI w Y y0 y1
theorem PtA.i {w : World} {X Y : Fr} {x0 x1 y0 y1 : Value} (h : PtA w X Y x0 x1 y0 y1) : PtI w X Y x0 x1 y0 y1 := ⟨h.x.i, h.y.i⟩
/-- What a function leaves that answers a point. -/
def OwnP (X Y : Fr) (w : World) (en : Ending) (w' : World) : Prop :=
  ∃ x0 x1 y0 y1, en = .returned (.agg #[.bool X.s, x0, x1, .bool Y.s, y0, y1]) ∧ Owns w' w.heap.size (rowsP X Y x0 x1 y0 y1) ∧ Below w.heap.size w w'
theorem PtI.below {w w' : World} {X Y : Fr} {x0 x1 y0 y1 : Value} (h : PtI w X Y x0 x1 y0 y1) (hb : Below w.heap.size w w') : PtI w' X Y x0 x1 y0 y1 := ⟨h.x.below hb, h.y.below hb⟩
theorem St.ptI {w0 w : World} {bs : List (Nat × List Value)} {cs : List Chunk} (h : St w0 w bs cs) {X Y : Fr} {x0 x1 y0 y1 : Value} (ha : PtI w0 X Y x0 x1 y0 y1) : PtI w X Y x0 x1 y0 y1 := ha.below h.below
set_option maxRecDepth 100000 in
set_option maxHeartbeats 4000000 in
theorem szPoint_f (X Y : Fr) (x0 x1 y0 y1 : Value) (w : World) (k : Int) (h0 : 0 ≤ k) (h1 : k ≤ 1048576) (hX : FrI w X x0 x1) (hY : FrI w Y y0 y1) :
    Calls Tryd.prog 9 #[.agg #[.bool X.s, x0, x1, .bool Y.s, y0, y1], .int .i64 k] w fun e w' => e = .returned (.int .i64 (szOf k (X.len + Y.len))) ∧ Below w.heap.size w w' := by
  have HL := Lib.hid (PtI.mk hX hY)
  clear hX hY
  have S_1 := Lib.hid (show St w (w.alloc (.cells #[.bool X.s, x0, x1, .bool Y.s, y0, y1] 36)) [(w.heap.size, [.bool X.s, x0, x1, .bool Y.s, y0, y1])] [] from ((St.start w).alloc_at (b := w.heap.size) [.bool X.s, x0, x1, .bool Y.s, y0, y1] 36 (by first | rfl | simp)))
  go_enter Tryd.func9, Tryd.ntmps9
  have hk_a_0_1 := S_1.out.cell 0 0 rfl rfl
  have hk_a_1_1 := S_1.out.cell 0 1 rfl rfl
  have hk_a_2_1 := S_1.out.cell 0 2 rfl rfl
  have hk_a_3_1 := S_1.out.cell 0 3 rfl rfl
  have hk_a_4_1 := S_1.out.cell 0 4 rfl rfl
  have hk_a_5_1 := S_1.out.cell 0 5 rfl rfl
  go_wp2_with fail
  refine (szRat_f X x0 x1 _ (k) (by omega) (by omega) (S_1.out.ptI HL.out).x).mono ?_
  rintro e w1 ⟨rfl, hb⟩
  have S_2 := Lib.hid (S_1.out.call hb)
  clear S_1
  clear hb
  clear hk_a_0_1 hk_a_1_1 hk_a_2_1 hk_a_3_1 hk_a_4_1 hk_a_5_1
  by_cases hs0 : k < (X.len : Int)
  · rw [szOf_neg hs0]
    go_wp2
    go_ret
    exact ⟨ret_int (szOf_neg (by omega)).symm, S_2.out.below⟩
  · rw [szOf_pos hs0]
    obtain ⟨k0, hk0⟩ : ∃ q : Int, k - (X.len : Int) = q := ⟨_, rfl⟩
    rw [hk0]
    have hk_a_0_2 := S_2.out.cell 0 0 rfl rfl
    have hk_a_1_2 := S_2.out.cell 0 1 rfl rfl
    have hk_a_2_2 := S_2.out.cell 0 2 rfl rfl
    have hk_a_3_2 := S_2.out.cell 0 3 rfl rfl
    have hk_a_4_2 := S_2.out.cell 0 4 rfl rfl
    have hk_a_5_2 := S_2.out.cell 0 5 rfl rfl
    go_wp2_with fail
    refine (szRat_f Y y0 y1 _ (k0) (by omega) (by omega) (S_2.out.ptI HL.out).y).mono ?_
    rintro e w2 ⟨rfl, hb⟩
    have S_3 := Lib.hid (S_2.out.call hb)
    clear S_2
    clear hb
    clear hk_a_0_2 hk_a_1_2 hk_a_2_2 hk_a_3_2 hk_a_4_2 hk_a_5_2
    by_cases hs1 : k0 < (Y.len : Int)
    · rw [szOf_neg hs1]
      go_wp2
      go_ret
      exact ⟨ret_int (szOf_neg (by omega)).symm, S_3.out.below⟩
    · rw [szOf_pos hs1]
      obtain ⟨k1, hk1⟩ : ∃ q : Int, k0 - (Y.len : Int) = q := ⟨_, rfl⟩
      rw [hk1]
      go_wp2
      go_ret
      exact ⟨ret_int (by rw [szOf_pos (by omega)]; omega), S_3.out.below⟩
set_option maxRecDepth 100000 in
set_option maxHeartbeats 4000000 in
theorem toPoint_f (X Y : Fr) (x0 x1 y0 y1 : Value) (w : World) (hX : FrI w X x0 x1) (hY : FrI w Y y0 y1) (hl : X.len + Y.len ≤ 1048576) :
    Calls Tryd.prog 14 #[.agg #[.bool X.s, x0, x1, .bool Y.s, y0, y1]] w (OwnP X Y w) := by
  have HL := Lib.hid (PtI.mk hX hY)
  clear hX hY
  have S_1 := Lib.hid (show St w (((w.alloc (.cells #[.bool X.s, x0, x1, .bool Y.s, y0, y1] 36)).alloc (.cells #[.bool false, .slice none 0 0, .slice none 0 0, .bool false, .slice none 0 0, .slice none 0 0] 42)).alloc (.cells #[.bool false, .slice none 0 0, .slice none 0 0, .bool false, .slice none 0 0, .slice none 0 0] 42)) [(w.heap.size + 1 + 1, [.bool false, .slice none 0 0, .slice none 0 0, .bool false, .slice none 0 0, .slice none 0 0]), (w.heap.size + 1, [.bool false, .slice none 0 0, .slice none 0 0, .bool false, .slice none 0 0, .slice none 0 0]), (w.heap.size, [.bool X.s, x0, x1, .bool Y.s, y0, y1])] [] from ((((St.start w).alloc_at (b := w.heap.size) [.bool X.s, x0, x1, .bool Y.s, y0, y1] 36 (by first | rfl | simp)).alloc_at (b := w.heap.size + 1) [.bool false, .slice none 0 0, .slice none 0 0, .bool false, .slice none 0 0, .slice none 0 0] 42 (by first | rfl | simp)).alloc_at (b := w.heap.size + 1 + 1) [.bool false, .slice none 0 0, .slice none 0 0, .bool false, .slice none 0 0, .slice none 0 0] 42 (by first | rfl | simp)))
  have hne_out_res : w.heap.size + 1 + 1 ≠ w.heap.size + 1 := by omega
  have hne_out_a : w.heap.size + 1 + 1 ≠ w.heap.size := by omega
  have hne_res_out : w.heap.size + 1 ≠ w.heap.size + 1 + 1 := by omega
  have hne_res_a : w.heap.size + 1 ≠ w.heap.size := by omega
  have hne_a_out : w.heap.size ≠ w.heap.size + 1 + 1 := by omega
  have hne_a_res : w.heap.size ≠ w.heap.size + 1 := by omega
  go_enter Tryd.func14, Tryd.ntmps14
  go_wp2_with fail
  refine (toRat_f X x0 x1 _ (S_1.out.ptI HL.out).x (by omega)).mono ?_
  rintro e w1 ⟨v1, u1, rfl, ho, hb⟩
  obtain ⟨A1, n1, c1, rfl⟩ := (ho.at_ 0 rfl).shape3
  obtain ⟨B1, m1, d1, rfl⟩ := (ho.at_ 1 rfl).shape3
  have S_2 := Lib.hid (S_1.out.rows ho hb)
  clear S_1
  clear ho hb
  have hk_a_0_2 := S_2.out.cell 2 0 rfl rfl
  have hk_a_1_2 := S_2.out.cell 2 1 rfl rfl
  have hk_a_2_2 := S_2.out.cell 2 2 rfl rfl
  have hk_a_3_2 := S_2.out.cell 2 3 rfl rfl
  have hk_a_4_2 := S_2.out.cell 2 4 rfl rfl
  have hk_a_5_2 := S_2.out.cell 2 5 rfl rfl
  have hk_out_0_2 := S_2.out.cell 0 0 rfl rfl
  have hk_out_0_2f := S_2.out.froz 0 0 rfl rfl
  have hk_out_1_2 := S_2.out.cell 0 1 rfl rfl
  have hk_out_1_2f := S_2.out.froz 0 1 rfl rfl
  have hk_out_2_2 := S_2.out.cell 0 2 rfl rfl
  have hk_out_2_2f := S_2.out.froz 0 2 rfl rfl
  have hk_out_3_2 := S_2.out.cell 0 3 rfl rfl
  have hk_out_3_2f := S_2.out.froz 0 3 rfl rfl
  have hk_out_4_2 := S_2.out.cell 0 4 rfl rfl
  have hk_out_4_2f := S_2.out.froz 0 4 rfl rfl
  have hk_out_5_2 := S_2.out.cell 0 5 rfl rfl
  have hk_out_5_2f := S_2.out.froz 0 5 rfl rfl
  go_wp2_with fail
  clear hk_a_0_2 hk_a_1_2 hk_a_2_2 hk_a_3_2 hk_a_4_2 hk_a_5_2 hk_out_0_2 hk_out_0_2f hk_out_1_2 hk_out_1_2f hk_out_2_2 hk_out_2_2f hk_out_3_2 hk_out_3_2f hk_out_4_2 hk_out_4_2f hk_out_5_2 hk_out_5_2f
  have S_3 := Lib.hid (show St w (((w1.setCell ⟨w.heap.size + 1 + 1, 0, none⟩ (.bool X.s)).setCell ⟨w.heap.size + 1 + 1, 1, none⟩ ((.slice A1 n1 c1))).setCell ⟨w.heap.size + 1 + 1, 2, none⟩ ((.slice B1 m1 d1))) [(w.heap.size + 1 + 1, [.bool X.s, (.slice A1 n1 c1), (.slice B1 m1 d1), .bool false, .slice none 0 0, .slice none 0 0]), (w.heap.size + 1, [.bool false, .slice none 0 0, .slice none 0 0, .bool false, .slice none 0 0, .slice none 0 0]), (w.heap.size, [.bool X.s, x0, x1, .bool Y.s, y0, y1])] [[((.slice A1 n1 c1), ints X.xs), ((.slice B1 m1 d1), ints X.ys)]] from (((S_2.out.set 0 0 (.bool X.s) rfl rfl).set 0 1 ((.slice A1 n1 c1)) rfl rfl).set 0 2 ((.slice B1 m1 d1)) rfl rfl))
  clear S_2
  obtain ⟨u1, hu1⟩ : ∃ u, (((w1.setCell ⟨w.heap.size + 1 + 1, 0, none⟩ (.bool X.s)).setCell ⟨w.heap.size + 1 + 1, 1, none⟩ ((.slice A1 n1 c1))).setCell ⟨w.heap.size + 1 + 1, 2, none⟩ ((.slice B1 m1 d1))) = u := ⟨_, rfl⟩
  rw [hu1] at S_3 ⊢
  clear hu1
  refine (toRat_f Y y0 y1 _ (S_3.out.ptI HL.out).y (by omega)).mono ?_
  rintro e w2 ⟨v2, u2, rfl, ho, hb⟩
  obtain ⟨A2, n2, c2, rfl⟩ := (ho.at_ 0 rfl).shape3
  obtain ⟨B2, m2, d2, rfl⟩ := (ho.at_ 1 rfl).shape3
  have S_4 := Lib.hid (S_3.out.rows ho hb)
  clear S_3
  clear ho hb
  have hk_out_0_4 := S_4.out.cell 0 0 rfl rfl
  have hk_out_0_4f := S_4.out.froz 0 0 rfl rfl
  have hk_out_1_4 := S_4.out.cell 0 1 rfl rfl
  have hk_out_1_4f := S_4.out.froz 0 1 rfl rfl
  have hk_out_2_4 := S_4.out.cell 0 2 rfl rfl
  have hk_out_2_4f := S_4.out.froz 0 2 rfl rfl
  have hk_out_3_4 := S_4.out.cell 0 3 rfl rfl
  have hk_out_3_4f := S_4.out.froz 0 3 rfl rfl
  have hk_out_4_4 := S_4.out.cell 0 4 rfl rfl
  have hk_out_4_4f := S_4.out.froz 0 4 rfl rfl
  have hk_out_5_4 := S_4.out.cell 0 5 rfl rfl
  have hk_out_5_4f := S_4.out.froz 0 5 rfl rfl
  have hk_res_0_4 := S_4.out.cell 1 0 rfl rfl
  have hk_res_0_4f := S_4.out.froz 1 0 rfl rfl
  have hk_res_1_4 := S_4.out.cell 1 1 rfl rfl
  have hk_res_1_4f := S_4.out.froz 1 1 rfl rfl
  have hk_res_2_4 := S_4.out.cell 1 2 rfl rfl
  have hk_res_2_4f := S_4.out.froz 1 2 rfl rfl
  have hk_res_3_4 := S_4.out.cell 1 3 rfl rfl
  have hk_res_3_4f := S_4.out.froz 1 3 rfl rfl
  have hk_res_4_4 := S_4.out.cell 1 4 rfl rfl
  have hk_res_4_4f := S_4.out.froz 1 4 rfl rfl
  have hk_res_5_4 := S_4.out.cell 1 5 rfl rfl
  have hk_res_5_4f := S_4.out.froz 1 5 rfl rfl
  go_wp2
  have SR := Lib.hid ((((S_4.out.set 0 3 (.bool Y.s) rfl rfl).set 0 4 (.slice A2 n2 c2) rfl rfl).set 0 5 (.slice B2 m2 d2) rfl rfl).setAll 1 [.bool X.s, (.slice A1 n1 c1), (.slice B1 m1 d1), .bool Y.s, (.slice A2 n2 c2), (.slice B2 m2 d2)] rfl rfl)
  have hr0 := S_4.out.cell 1 0 rfl rfl
  have hr1 := S_4.out.cell 1 1 rfl rfl
  have hr2 := S_4.out.cell 1 2 rfl rfl
  have hr3 := S_4.out.cell 1 3 rfl rfl
  have hr4 := S_4.out.cell 1 4 rfl rfl
  have hr5 := S_4.out.cell 1 5 rfl rfl
  exact bodyPost_ret (v := .agg #[.bool X.s, (.slice A1 n1 c1), (.slice B1 m1 d1), .bool Y.s, (.slice A2 n2 c2), (.slice B2 m2 d2)]) (by simp [results, Tryd.results14, go_sem, hr0, hr1, hr2, hr3, hr4, hr5]) rfl ⟨_, _, _, _, rfl, SR.out.pick [1, 0] [[((.slice A1 n1 c1), ints X.xs), ((.slice B1 m1 d1), ints X.ys)], [((.slice A2 n2 c2), ints Y.xs), ((.slice B2 m2 d2), ints Y.ys)]] (by decide) rfl, SR.out.below⟩
set_option maxRecDepth 100000 in
set_option maxHeartbeats 4000000 in
theorem eqPoint_f (X Y : Fr) (x0 x1 y0 y1 : Value) (x2 x3 y2 y3 : Value) (w : World) (hL : PtI w X Y x0 x1 y0 y1) (hM : PtI w X Y x2 x3 y2 y3) :
    Calls Tryd.prog 19 #[.agg #[.bool X.s, x0, x1, .bool Y.s, y0, y1], .agg #[.bool X.s, x2, x3, .bool Y.s, y2, y3]] w fun e w' => e = .returned (.bool true) ∧ Below w.heap.size w w' := by
  have HL := Lib.hid hL
  have HM := Lib.hid hM
  clear hL hM
  have S_1 := Lib.hid (show St w ((w.alloc (.cells #[.bool X.s, x0, x1, .bool Y.s, y0, y1] 42)).alloc (.cells #[.bool X.s, x2, x3, .bool Y.s, y2, y3] 42)) [(w.heap.size + 1, [.bool X.s, x2, x3, .bool Y.s, y2, y3]), (w.heap.size, [.bool X.s, x0, x1, .bool Y.s, y0, y1])] [] from (((St.start w).alloc_at (b := w.heap.size) [.bool X.s, x0, x1, .bool Y.s, y0, y1] 42 (by first | rfl | simp)).alloc_at (b := w.heap.size + 1) [.bool X.s, x2, x3, .bool Y.s, y2, y3] 42 (by first | rfl | simp)))
  have hne_b_a : w.heap.size + 1 ≠ w.heap.size := by omega
  have hne_a_b : w.heap.size ≠ w.heap.size + 1 := by omega
  go_enter Tryd.func19, Tryd.ntmps19
  go_wp2_with fail
  refine (eqRat_f X x0 x1 _ x2 x3 (S_1.out.ptI HL.out).x (S_1.out.ptI HM.out).x).mono ?_
  rintro e w1 ⟨rfl, hb⟩
  have S_2 := Lib.hid (S_1.out.call hb)
  clear S_1
  clear hb
  have hk_a_0_2 := S_2.out.cell 1 0 rfl rfl
  have hk_a_1_2 := S_2.out.cell 1 1 rfl rfl
  have hk_a_2_2 := S_2.out.cell 1 2 rfl rfl
  have hk_a_3_2 := S_2.out.cell 1 3 rfl rfl
  have hk_a_4_2 := S_2.out.cell 1 4 rfl rfl
  have hk_a_5_2 := S_2.out.cell 1 5 rfl rfl
  have hk_b_0_2 := S_2.out.cell 0 0 rfl rfl
  have hk_b_1_2 := S_2.out.cell 0 1 rfl rfl
  have hk_b_2_2 := S_2.out.cell 0 2 rfl rfl
  have hk_b_3_2 := S_2.out.cell 0 3 rfl rfl
  have hk_b_4_2 := S_2.out.cell 0 4 rfl rfl
  have hk_b_5_2 := S_2.out.cell 0 5 rfl rfl
  go_wp2_with fail
  refine (eqRat_f Y y0 y1 _ y2 y3 (S_2.out.ptI HL.out).y (S_2.out.ptI HM.out).y).mono ?_
  rintro e w2 ⟨rfl, hb⟩
  have S_3 := Lib.hid (S_2.out.call hb)
  clear S_2
  clear hb
  clear hk_a_0_2 hk_a_1_2 hk_a_2_2 hk_a_3_2 hk_a_4_2 hk_a_5_2 hk_b_0_2 hk_b_1_2 hk_b_2_2 hk_b_3_2 hk_b_4_2 hk_b_5_2
  go_wp2
  go_ret
  exact ⟨rfl, S_3.out.below⟩
end Go.Proofs.YtbikkbamcleinaaDoor
namespace Go.Proofs.YtbikkbamcleinaaDoor
open Go.ChangeShapes Go.WideShapes Go.ChangeAt Go.RowKit Go.Joins Go.Deep
set_option linter.unusedVariables false

/-- The type t is that of fractions. -/
def RatT (P : Program) (t : TypeId) : Prop :=
  ∃ (e : TypeId) (F0 F1 f0 f1 : Field), P.underlying t = some (.struct #[F0, F1]) ∧ P.underlying F0.type = some (.struct #[f0, f1]) ∧ F0.offset = 0 ∧ F1.offset = 2 ∧ P.cellsOf F0.type = 2 ∧ P.cellsOf F1.type = 1 ∧ oneCellFields P #[f0, f1] = true ∧ P.cellsOf t = 3 ∧ P.underlying f0.type = some .bool ∧ P.underlying f1.type = some (.slice e) ∧ P.underlying F1.type = some (.slice e) ∧ P.underlying e = some (.int .i64) ∧ P.cellsOf e = 1
theorem ratT : RatT Tryd.prog 34 :=
  ⟨_, _, _, _, _, Tryd.underlying34, Tryd.underlying32, rfl, rfl, by kernel_rfl, by kernel_rfl, by kernel_rfl, by kernel_rfl, Tryd.underlying4, Tryd.underlying30, Tryd.underlying30, Tryd.underlying3, by kernel_rfl⟩
section
variable {H : Type} {enc : TypeId × Value → H} {P : Program} {w : World}
theorem rat_cells {t : TypeId} {fuel : Nat} {c0 c1 c2 : Value} {x : DataW H × List MemPlace} (hr : RatT P t) (h : DataW.trod enc P w 0 (fun _ => true) true fuel t [c0, c1, c2] = some x) : ∃ F : Fr, c0 = .bool F.s ∧ FrI w F c1 c2 := by
  obtain ⟨e, F0, F1, f0, f1, hs, hs2, ho0, ho1, hc0, hc1, hone, hC, h0, h1, h2, he, hc⟩ := hr
  obtain ⟨y0, y1, n, hx, _, g0, g1⟩ := trod_struct2 hs h
  have g0' : DataW.trod enc P w 0 (fun _ => true) true n F0.type [c0, c1] = some y0 := by simpa [Value.cells, ho0, hc0] using g0
  have g1' : DataW.trod enc P w 0 (fun _ => true) true n F1.type [c2] = some y1 := by simpa [Value.cells, ho1, hc1] using g1
  obtain ⟨z0, z1, m, hx2, _, q0, q1⟩ := trod_struct2 hs2 g0'
  obtain ⟨o0, k0⟩ := hone_of hone 0 f0 rfl
  obtain ⟨o1, k1⟩ := hone_of hone 1 f1 rfl
  have q0' : DataW.trod enc P w 0 (fun _ => true) true m f0.type [c0] = some z0 := by simpa [o0, k0] using q0
  have q1' : DataW.trod enc P w 0 (fun _ => true) true m f1.type [c1] = some z1 := by simpa [o1, k1] using q1
  obtain ⟨s, e0, _⟩ := DataW.trod_bool h0 q0'
  obtain ⟨a, l, c, e1⟩ := slice_form h1 q1'
  obtain ⟨a', l', c', e2⟩ := slice_form h2 g1'
  simp at e0 e1 e2
  subst e0 e1 e2
  obtain ⟨zs, hz⟩ := isInts_of h1 he hc (⟨m, by simpa [Value.cells] using q1'⟩ : DataW.Trod enc P w 0 (fun _ => true) true f1.type (.slice a l c) z1.1 z1.2)
  obtain ⟨zs', hz'⟩ := isInts_of h2 he hc (⟨n, by simpa [Value.cells] using g1'⟩ : DataW.Trod enc P w 0 (fun _ => true) true F1.type (.slice a' l' c') y1.1 y1.2)
  exact ⟨⟨s, zs, zs'⟩, rfl, ⟨ArgI.of hz, ArgI.of hz'⟩⟩
theorem trod_struct5 {t : TypeId} {f0 f1 f2 f3 f4 : Field} {fuel : Nat} {cs : List Value} {x : DataW H × List MemPlace} (ht : P.underlying t = some (.struct #[f0, f1, f2, f3, f4])) (h : DataW.trod enc P w 0 (fun _ => true) true fuel t cs = some x) :
    ∃ y0 y1 y2 y3 y4 n, DataW.trod enc P w 0 (fun _ => true) true n f0.type ((cs.drop f0.offset).take (P.cellsOf f0.type)) = some y0 ∧ DataW.trod enc P w 0 (fun _ => true) true n f1.type ((cs.drop f1.offset).take (P.cellsOf f1.type)) = some y1 ∧ DataW.trod enc P w 0 (fun _ => true) true n f2.type ((cs.drop f2.offset).take (P.cellsOf f2.type)) = some y2 ∧ DataW.trod enc P w 0 (fun _ => true) true n f3.type ((cs.drop f3.offset).take (P.cellsOf f3.type)) = some y3 ∧ DataW.trod enc P w 0 (fun _ => true) true n f4.type ((cs.drop f4.offset).take (P.cellsOf f4.type)) = some y4 := by
  obtain ⟨xs, n, _, rfl, hl, hlen, hf⟩ := DataW.trod_struct ht h
  match xs, hlen with
  | [y0, y1, y2, y3, y4], _ => exact ⟨y0, y1, y2, y3, y4, n, by simpa using hf 0 f0 rfl, by simpa using hf 1 f1 rfl, by simpa using hf 2 f2 rfl, by simpa using hf 3 f3 rfl, by simpa using hf 4 f4 rfl⟩
/-- The type t is that of links, tr that of fractions. -/
def LinkT (P : Program) (t tr : TypeId) : Prop :=
  RatT P tr ∧ ∃ f0 f1 f2 f3 f4 : Field, P.underlying t = some (.struct #[f0, f1, f2, f3, f4]) ∧ (f0.offset = 0 ∧ f1.offset = 1 ∧ f2.offset = 2 ∧ f3.offset = 5 ∧ f4.offset = 8) ∧ (P.cellsOf f0.type = 1 ∧ P.cellsOf f1.type = 1 ∧ P.cellsOf tr = 3) ∧ (f2.type = tr ∧ f3.type = tr ∧ f4.type = tr) ∧ P.underlying f0.type = some (.int .i64) ∧ P.underlying f1.type = some (.int .i64) ∧ P.cellsOf t = 11
theorem link_cells {t tr : TypeId} {fuel : Nat} {c0 c1 c2 c3 c4 c5 c6 c7 c8 c9 c10 : Value} {x : DataW H × List MemPlace} (hr : LinkT P t tr) (h : DataW.trod enc P w 0 (fun _ => true) true fuel t [c0, c1, c2, c3, c4, c5, c6, c7, c8, c9, c10] = some x) :
    ∃ (A B : Int) (X Y Z : Fr), c0 = .int .i64 A ∧ c1 = .int .i64 B ∧ c2 = .bool X.s ∧ c5 = .bool Y.s ∧ c8 = .bool Z.s ∧ LkI w X Y Z c3 c4 c6 c7 c9 c10 := by
  obtain ⟨hr, f0, f1, f2, f3, f4, hs, ⟨o0, o1, o2, o3, o4⟩, ⟨k0, k1, k2⟩, ⟨t2, t3, t4⟩, u0, u1, _⟩ := hr
  obtain ⟨y0, y1, y2, y3, y4, n, g0, g1, g2, g3, g4⟩ := trod_struct5 hs h
  rw [t2] at g2; rw [t3] at g3; rw [t4] at g4
  have g0' : DataW.trod enc P w 0 (fun _ => true) true n f0.type [c0] = some y0 := by simpa [o0, k0] using g0
  have g1' : DataW.trod enc P w 0 (fun _ => true) true n f1.type [c1] = some y1 := by simpa [o1, k1] using g1
  have g2' : DataW.trod enc P w 0 (fun _ => true) true n tr [c2, c3, c4] = some y2 := by simpa [o2, k2] using g2
  have g3' : DataW.trod enc P w 0 (fun _ => true) true n tr [c5, c6, c7] = some y3 := by simpa [o3, k2] using g3
  have g4' : DataW.trod enc P w 0 (fun _ => true) true n tr [c8, c9, c10] = some y4 := by simpa [o4, k2] using g4
  obtain ⟨A, e0, _⟩ := DataW.trod_int u0 g0'
  obtain ⟨B, e1, _⟩ := DataW.trod_int u1 g1'
  obtain ⟨X, ex, hX⟩ := rat_cells hr g2'
  obtain ⟨Y, ey, hY⟩ := rat_cells hr g3'
  obtain ⟨Z, ez, hZ⟩ := rat_cells hr g4'
  exact ⟨A, B, X, Y, Z, by simpa using e0, by simpa using e1, ex, ey, ez, ⟨hX, hY, hZ⟩⟩
theorem list11 {l : List Value} (h : l.length = 11) : ∃ c0 c1 c2 c3 c4 c5 c6 c7 c8 c9 c10, l = [c0, c1, c2, c3, c4, c5, c6, c7, c8, c9, c10] := by
  match l, h with
  | [c0, c1, c2, c3, c4, c5, c6, c7, c8, c9, c10], _ => exact ⟨c0, c1, c2, c3, c4, c5, c6, c7, c8, c9, c10, rfl⟩
theorem isLink_of {t tr : TypeId} {r : Reach} {b0 : Nat} {v : Value} {d : DataW H} {p : List MemPlace} (hr : LinkT P t tr) (hv : Value.okWide P w r b0 t v) (h : DataW.Trod enc P w 0 (fun _ => true) true t v d p) :
    ∃ (A B : Int) (X Y Z : Fr) (p0 p1 q0 q1 r0 r1 : Value), v = .agg #[.int .i64 A, .int .i64 B, .bool X.s, p0, p1, .bool Y.s, q0, q1, .bool Z.s, r0, r1] ∧ LkI w X Y Z p0 p1 q0 q1 r0 r1 := by
  have hr' := hr
  obtain ⟨_, f0, f1, f2, f3, f4, hs, _, _, _, _, _, hC⟩ := hr'
  obtain ⟨cs, rfl, hsz⟩ := okWide_struct hs hv
  obtain ⟨l⟩ := cs
  obtain ⟨c0, c1, c2, c3, c4, c5, c6, c7, c8, c9, c10, rfl⟩ := list11 (l := l) (by simpa using hsz.trans hC)
  obtain ⟨fuel, hf⟩ := h
  obtain ⟨A, B, X, Y, Z, rfl, rfl, rfl, rfl, rfl, hL⟩ := link_cells hr (by simpa [Value.cells] using hf)
  exact ⟨A, B, X, Y, Z, _, _, _, _, _, _, rfl, hL⟩
/-- The type t is that of points. -/
def PointT (P : Program) (t tr : TypeId) : Prop :=
  RatT P tr ∧ ∃ f0 f1 : Field, P.underlying t = some (.struct #[f0, f1]) ∧ (f0.offset = 0 ∧ f1.offset = 3) ∧ P.cellsOf tr = 3 ∧ (f0.type = tr ∧ f1.type = tr) ∧ P.cellsOf t = 6
theorem isPoint_of {t tr : TypeId} {r : Reach} {b0 : Nat} {v : Value} {d : DataW H} {p : List MemPlace} (hr : PointT P t tr) (hv : Value.okWide P w r b0 t v) (h : DataW.Trod enc P w 0 (fun _ => true) true t v d p) :
    ∃ (X Y : Fr) (p0 p1 q0 q1 : Value), v = .agg #[.bool X.s, p0, p1, .bool Y.s, q0, q1] ∧ FrI w X p0 p1 ∧ FrI w Y q0 q1 := by
  obtain ⟨hr, f0, f1, hs, ⟨o0, o1⟩, k, ⟨t0, t1⟩, hC⟩ := hr
  obtain ⟨cs, rfl, hsz⟩ := okWide_struct hs hv
  obtain ⟨l⟩ := cs
  obtain ⟨c0, c1, c2, c3, c4, c5, rfl⟩ : ∃ c0 c1 c2 c3 c4 c5, l = [c0, c1, c2, c3, c4, c5] := by
    have hl : l.length = 6 := by simpa using hsz.trans hC
    match l, hl with
    | [c0, c1, c2, c3, c4, c5], _ => exact ⟨c0, c1, c2, c3, c4, c5, rfl⟩
  obtain ⟨fuel, hf⟩ := h
  obtain ⟨y0, y1, n, hx, _, g0, g1⟩ := trod_struct2 hs hf
  rw [t0] at g0; rw [t1] at g1
  have g0' : DataW.trod enc P w 0 (fun _ => true) true n tr [c0, c1, c2] = some y0 := by simpa [Value.cells, o0, k] using g0
  have g1' : DataW.trod enc P w 0 (fun _ => true) true n tr [c3, c4, c5] = some y1 := by simpa [Value.cells, o1, k] using g1
  obtain ⟨X, rfl, hX⟩ := rat_cells hr g0'
  obtain ⟨Y, rfl, hY⟩ := rat_cells hr g1'
  exact ⟨X, Y, _, _, _, _, rfl, hX, hY⟩
end
theorem pointT : PointT Tryd.prog 36 34 :=
  ⟨ratT, _, _, Tryd.underlying36, ⟨rfl, rfl⟩, by kernel_rfl, ⟨rfl, rfl⟩, by kernel_rfl⟩
end Go.Proofs.YtbikkbamcleinaaDoor
