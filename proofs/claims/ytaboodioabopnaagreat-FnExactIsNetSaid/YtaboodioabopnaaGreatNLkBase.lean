/- A fraction, a link, a point among a law's arguments, opened. Conditions: none. -/
import Derived.Test.YtaboodioabopnaaGreatProg
import Derived.Test.YtaboodioabopnaaGreatNB4
import Derived.Test.YtaboodioabopnaaGreatNB1
import Derived.Test.YtaboodioabopnaaGreatNB5
import Derived.Test.YtaboodioabopnaaGreatNB7
import Derived.Test.YtaboodioabopnaaGreatNB8
namespace Go.Proofs.YtaboodioabopnaaGreat
open Go.RowKit Nt
set_option linter.unusedVariables false
structure Fr where
 s : Bool
 xs : List Int
 ys : List Int
def up (l : List Nat) : List Int := l.map fun x : Nat => (x : Int)
theorem ints_up (l : List Nat) : ints (up l) = nats l := rfl
namespace Fr
def zero : Fr := ⟨false, [], []⟩
def ok (F : Fr) : Bool := okR F.s F.xs F.ys
def rt (ok : Bool) (z : Int) (b : Nat) : Fr := ⟨rtS ok z b, up (rtN ok z b), up (rtD ok z b)⟩
def of (x : Int) : Fr := ⟨sgZ x, up (magZ x), up [1]⟩
def add (F G : Fr) : Fr := rt (okR F.s F.xs F.ys && okR G.s G.xs G.ys) (zOf F.s F.xs * (val (toN G.ys) : Int) + zOf G.s G.xs * (val (toN F.ys) : Int)) (val (toN F.ys) * val (toN G.ys))
def sub (F G : Fr) : Fr := rt (okR F.s F.xs F.ys && okR G.s G.xs G.ys) (zOf F.s F.xs * (val (toN G.ys) : Int) - zOf G.s G.xs * (val (toN F.ys) : Int)) (val (toN F.ys) * val (toN G.ys))
def sgn (F : Fr) : Int := sgnR F.s F.xs F.ys
def same (F G : Fr) : Bool := eqR F.s F.xs F.ys G.s G.xs G.ys
def Good (F : Fr) : Prop := F.ok = true ∨ F = zero
theorem Good.semi {F : Fr} (h : F.Good) : Semi F.s F.xs F.ys := by
 rcases h with h | rfl
 · exact semi_ok h
 · exact semi_zero
theorem rt_no {z : Int} {b : Nat} : rt false z b = zero := by simp [rt, rtS, rtN, rtD, zero, up]
theorem rt_zero {o : Bool} {z : Int} : rt o z 0 = zero := by
 cases o with
 | false => exact rt_no
 | true => simp [rt, rtS, rtN, rtD, loS, loN, loD, okL_no_zero, zero, up]
theorem good_rt (o : Bool) (z : Int) (b : Nat) : (rt o z b).Good := by
 cases o with
 | false => exact .inr rt_no
 | true =>
   by_cases h : okL z.natAbs b = true
   · refine .inl ?_
     have hb : b ≠ 0 := fun e => by rw [e, okL_no_zero] at h; simp at h
     have hz : signed (decide (z < 0)) z.natAbs = z := by unfold signed; split <;> simp_all <;> omega
     obtain ⟨e1, e2, e3⟩ := low_some hz h
     have h' := h
     unfold okL at h'
     simp only [Bool.and_eq_true, decide_eq_true_eq] at h'
     obtain ⟨⟨_, l1⟩, l2⟩ := h'
     have hg : 0 < Nat.gcd z.natAbs b := Nat.gcd_pos_of_pos_right _ (by omega)
     have hd : 0 < b / Nat.gcd z.natAbs b := Nat.div_pos (Nat.gcd_le_right _ (by omega)) hg
     have q1 : okI (up (dig (z.natAbs / Nat.gcd z.natAbs b))) = true := okI_of_nats (dig_can _) (by omega)
     have q2 : okI (up (dig (b / Nat.gcd z.natAbs b))) = true := okI_of_nats (dig_can _) (by omega)
     have q3 := dig_pos_len hd
     unfold ok rt rtS rtN rtD
     simp only [if_true, Bool.true_and]
     rw [e1, e2, e3]
     unfold okR okB
     have t1 : toN (up (dig (z.natAbs / Nat.gcd z.natAbs b))) = dig (z.natAbs / Nat.gcd z.natAbs b) := toN_nats _
     have t2 : toN (up (dig (b / Nat.gcd z.natAbs b))) = dig (b / Nat.gcd z.natAbs b) := toN_nats _
     rw [q1, q2, t1, t2, val_dig, val_dig]
     have g1 : Nat.gcd (z.natAbs / Nat.gcd z.natAbs b) (b / Nat.gcd z.natAbs b) = 1 := by rw [Nat.gcd_div (Nat.gcd_dvd_left _ _) (Nat.gcd_dvd_right _ _), Nat.div_self hg]
     simp [up, q3, l1, l2, g1]
     rcases Nat.eq_zero_or_pos (dig (z.natAbs / Nat.gcd z.natAbs b)).length with h0 | h0
     · exact .inl (.inr (List.eq_nil_of_length_eq_zero h0))
     · exact .inr h0
   · refine .inr ?_
     rw [Bool.not_eq_true] at h
     simp [rt, rtS, rtN, rtD, loS, loN, loD, h, zero, up]
theorem good_add (F G : Fr) : (add F G).Good := good_rt _ _ _
theorem good_len {F : Fr} (h : F.Good) : F.xs.length ≤ 24 ∧ F.ys.length ≤ 24 := ⟨h.semi.parts.2.2.2.2.1, h.semi.parts.2.2.2.1⟩
theorem lo_rt {F G : Fr} (hF : F.Good) (hG : G.Good) {z : Int} {b : Nat} (h0 : F = zero ∨ G = zero → b = 0) : (⟨loS z b, up (loN z b), up (loD z b)⟩ : Fr) = rt (okR F.s F.xs F.ys && okR G.s G.xs G.ys) z b := by
 have key : (okR F.s F.xs F.ys && okR G.s G.xs G.ys) = true ∨ b = 0 := by
   rcases hF with hF | hF
   · rcases hG with hG | hG
     · exact .inl (by rw [show okR F.s F.xs F.ys = true from hF, show okR G.s G.xs G.ys = true from hG]; rfl)
     · exact .inr (h0 (.inr hG))
   · exact .inr (h0 (.inl hF))
 rcases key with k | k
 · rw [k]; simp [rt, rtS, rtN, rtD]
 · rw [k, rt_zero]; simp [loS, loN, loD, okL_no_zero, zero, up]
end Fr
open Fr
def OwnF (F : Fr) (w : World) (en : Ending) (w' : World) : Prop :=
 ∃ a b, en = .returned (.agg #[.bool F.s, a, b]) ∧ Owns w' w.heap.size [(a, ints F.xs), (b, ints F.ys)] ∧ Below w.heap.size w w'
theorem OwnRR.f {F : Fr} {s : Bool} {xs ys : List Value} {w w' : World} {e : Ending} (h : OwnRR 3 s xs ys w e w') (h1 : s = F.s) (h2 : xs = ints F.xs) (h3 : ys = ints F.ys) : OwnF F w e w' := by
 obtain ⟨a, b, rfl, ha, hb, ap, _, bel⟩ := h
 subst h1 h2 h3
 refine ⟨a, b, rfl, ⟨?_, ?_⟩, bel⟩
 · intro p hp
   simp only [List.mem_cons, List.not_mem_nil, or_false] at hp
   rcases hp with rfl | rfl
   · exact ha
   · exact hb
 · simp only [List.pairwise_cons, List.mem_singleton, forall_eq, List.not_mem_nil, false_imp_iff, implies_true, List.Pairwise.nil, and_true]
   rcases ap with ap | ap
   · intro k h1; rw [ap] at h1; simp at h1
   · intro k h1 h2; exact ap (h1.trans h2.symm)
structure FrA (w : World) (F : Fr) (a b : Value) : Prop where
 n : ArgV w a (ints F.xs)
 d : ArgV w b (ints F.ys)
theorem FrA.below {w w' : World} {F : Fr} {a b : Value} (h : FrA w F a b) (hb : Below w.heap.size w w') : FrA w' F a b := ⟨h.n.below hb, h.d.below hb⟩
theorem FrA.shape {w : World} {F : Fr} {a b : Value} (h : FrA w F a b) : ∃ A n c B m d, a = .slice A n c ∧ b = .slice B m d := by
 obtain ⟨⟨A, n, c, h1, _⟩, ⟨B, m, d, h2, _⟩⟩ := h
 exact ⟨A, n, c, B, m, d, h1, h2⟩
theorem Owns.fr {w : World} {base : Nat} {F : Fr} {a b : Value} {l : List (Value × List Value)} (h : Owns w base ((a, ints F.xs) :: (b, ints F.ys) :: l)) : FrA w F a b := ⟨(h.1 (a, ints F.xs) (by simp)).argV, (h.1 (b, ints F.ys) (by simp)).argV⟩
theorem Owns.frAt {w : World} {base : Nat} {l : Chunk} (h : Owns w base l) (k : Nat) {F : Fr} {a b : Value} (e1 : l[k]? = some (a, ints F.xs)) (e2 : l[k + 1]? = some (b, ints F.ys)) : FrA w F a b := ⟨h.argV k e1, h.argV (k + 1) e2⟩
theorem St.fr {w0 w : World} {bs : List (Nat × List Value)} {cs : List Chunk} (h : St w0 w bs cs) (i k : Nat) {l : Chunk} {F : Fr} {a b : Value} (e : cs[i]? = some l) (e1 : l[k]? = some (a, ints F.xs)) (e2 : l[k + 1]? = some (b, ints F.ys)) : FrA w F a b := (h.own i e).frAt k e1 e2
theorem St.frA {w0 w : World} {bs : List (Nat × List Value)} {cs : List Chunk} (h : St w0 w bs cs) {F : Fr} {a b : Value} (ha : FrA w0 F a b) : FrA w F a b := ha.below h.below
section
variable (F G : Fr) (a b c d : Value) (w : World)
theorem ratOk_s (h1 : FrA w F a b) :
   Calls Tryz.prog 35 #[.agg #[.bool F.s, a, b]] w fun e w' => e = .returned (.bool F.ok) ∧ Below w.heap.size w w' := by
 obtain ⟨⟨A, n, k, rfl, hA⟩, ⟨B, m, l, rfl, hB⟩⟩ := h1
 exact ratOk_spec F.s A n k F.xs B m l F.ys w hA hB
theorem ratSign_s (h1 : FrA w F a b) :
   Calls Tryz.prog 53 #[.agg #[.bool F.s, a, b]] w fun e w' => e = .returned (.int .i64 F.sgn) ∧ Below w.heap.size w w' := by
 obtain ⟨⟨A, n, k, rfl, hA⟩, ⟨B, m, l, rfl, hB⟩⟩ := h1
 exact ratSign_spec F.s A n k F.xs B m l F.ys w hA hB
theorem ratSign_i (h1 : FrA w F a b) :
   Calls Tryz.prog 59 #[.agg #[.bool F.s, a, b]] w fun e w' => e = .returned (.int .i64 F.sgn) ∧ Below w.heap.size w w' := by
 obtain ⟨⟨A, n, k, rfl, hA⟩, ⟨B, m, l, rfl, hB⟩⟩ := h1
 exact ratSign_impl F.s A n k F.xs B m l F.ys w hA hB
theorem areValid_f {T : TypeId} {bk : Nat} (h1 : FrA w F a b) (h2 : FrA w G c d) (hbk : w.heap.size = bk := by first | rfl | simp) :
   Calls Tryz.prog 61 #[.slice (some ⟨bk, 0, none⟩) 2 2] (w.alloc (.cells #[.bool F.s, a, b, .bool G.s, c, d] T)) fun e w' => e = .returned (.bool (F.ok && G.ok)) ∧ Below w.heap.size w w' := by
 obtain ⟨⟨A, n, k, rfl, hA⟩, ⟨B, m, l, rfl, hB⟩⟩ := h1
 obtain ⟨⟨C, p, q, rfl, hC⟩, ⟨E, i, j, rfl, hE⟩⟩ := h2
 exact areValid_any F.s A n k F.xs B m l F.ys G.s C p q G.xs E i j G.ys w hA hB hC hE hbk
theorem ratEqual_s (h1 : FrA w F a b) (h2 : FrA w G c d) :
   Calls Tryz.prog 54 #[.agg #[.bool F.s, a, b], .agg #[.bool G.s, c, d]] w fun e w' => e = .returned (.bool (F.same G)) ∧ Below w.heap.size w w' := by
 obtain ⟨⟨A, n, k, rfl, hA⟩, ⟨B, m, l, rfl, hB⟩⟩ := h1
 obtain ⟨⟨C, p, q, rfl, hC⟩, ⟨E, i, j, rfl, hE⟩⟩ := h2
 exact ratEqual_spec F.s A n k F.xs B m l F.ys G.s C p q G.xs E i j G.ys w hA hB hC hE
theorem ratEqual_i (h1 : FrA w F a b) (h2 : FrA w G c d) :
   Calls Tryz.prog 62 #[.agg #[.bool F.s, a, b], .agg #[.bool G.s, c, d]] w fun e w' => e = .returned (.bool (F.same G)) ∧ Below w.heap.size w w' := by
 obtain ⟨⟨A, n, k, rfl, hA⟩, ⟨B, m, l, rfl, hB⟩⟩ := h1
 obtain ⟨⟨C, p, q, rfl, hC⟩, ⟨E, i, j, rfl, hE⟩⟩ := h2
 exact ratEqual_impl F.s A n k F.xs B m l F.ys G.s C p q G.xs E i j G.ys w hA hB hC hE
theorem ratAdd_s (h1 : FrA w F a b) (h2 : FrA w G c d) :
   Calls Tryz.prog 33 #[.agg #[.bool F.s, a, b], .agg #[.bool G.s, c, d]] w (OwnF (F.add G) w) := by
 obtain ⟨⟨A, n, k, rfl, hA⟩, ⟨B, m, l, rfl, hB⟩⟩ := h1
 obtain ⟨⟨C, p, q, rfl, hC⟩, ⟨E, i, j, rfl, hE⟩⟩ := h2
 exact (ratAdd_spec F.s A n k F.xs B m l F.ys G.s C p q G.xs E i j G.ys w hA hB hC hE).mono fun _ _ h => h.f rfl rfl rfl
theorem plus_f (g1 : F.Good) (g2 : G.Good) (h1 : FrA w F a b) (h2 : FrA w G c d) :
   Calls Tryz.prog 39 #[.agg #[.bool F.s, a, b], .agg #[.bool G.s, c, d]] w (OwnF (F.add G) w) := by
 obtain ⟨⟨A, n, k, rfl, hA⟩, ⟨B, m, l, rfl, hB⟩⟩ := h1
 obtain ⟨⟨C, p, q, rfl, hC⟩, ⟨E, i, j, rfl, hE⟩⟩ := h2
 have e := lo_rt g1 g2 (z := zOf F.s F.xs * (val (toN G.ys) : Int) + zOf G.s G.xs * (val (toN F.ys) : Int)) (b := val (toN F.ys) * val (toN G.ys)) (by rintro (rfl | rfl) <;> simp [zero, toN, val])
 exact (plusR_at F.s A n k F.xs B m l F.ys G.s C p q G.xs E i j G.ys _ _ rfl rfl g1.semi g2.semi w hA hB hC hE).mono fun _ _ h => h.f (congrArg Fr.s e) (by rw [← ints_up]; exact congrArg (fun Q : Fr => ints Q.xs) e) (by rw [← ints_up]; exact congrArg (fun Q : Fr => ints Q.ys) e)
theorem ratFromInt_s (x : Int) (w : World) (hx : -9223372036854775808 ≤ x ∧ x ≤ 9223372036854775807) :
   Calls Tryz.prog 31 #[.int .i64 x] w (OwnF (Fr.of x) w) :=
 (ratFromInt_spec x w hx).mono fun _ _ h => h.f rfl rfl rfl
theorem ratFromInt_i (x : Int) (w : World) (hx : -9223372036854775808 ≤ x ∧ x ≤ 9223372036854775807) :
   Calls Tryz.prog 38 #[.int .i64 x] w (OwnF (Fr.of x) w) :=
 (ratFromInt_impl x w hx).mono fun _ _ h => h.f rfl rfl rfl
end
end Go.Proofs.YtaboodioabopnaaGreat
namespace Go.Proofs.YtaboodioabopnaaGreat
open Go.RowKit Nt Fr
set_option linter.unusedVariables false
theorem sgn_ok {P : Fr} (h : 0 < P.sgn) : P.ok = true := by
 cases hk : P.ok with
 | true => rfl
 | false => unfold Fr.sgn at h; rw [sgnR_no hk] at h; exact absurd h (by decide)
structure LkA (w : World) (P Q R : Fr) (p0 p1 q0 q1 r0 r1 : Value) : Prop where
 p : FrA w P p0 p1
 q : FrA w Q q0 q1
 r : FrA w R r0 r1
theorem LkA.below {w w' : World} {P Q R : Fr} {p0 p1 q0 q1 r0 r1 : Value} (h : LkA w P Q R p0 p1 q0 q1 r0 r1) (hb : Below w.heap.size w w') : LkA w' P Q R p0 p1 q0 q1 r0 r1 := ⟨h.p.below hb, h.q.below hb, h.r.below hb⟩
def rowsK (P Q R : Fr) (p0 p1 q0 q1 r0 r1 : Value) : Chunk := [(p0, ints P.xs), (p1, ints P.ys), (q0, ints Q.xs), (q1, ints Q.ys), (r0, ints R.xs), (r1, ints R.ys)]
set_option maxRecDepth 100000 in
set_option maxHeartbeats 4000000 in
theorem isNode_yes (n : Int) (w : World) (h : 0 ≤ n ∧ n < 10) : Calls Tryz.prog 58 #[.int .i64 n] w fun e w' => e = .returned (.bool true) ∧ w' = w := by
 obtain ⟨h1, h2⟩ := h
 have h3 : n ≤ 9 := by omega
 go_enter Tryz.func58, Tryz.ntmps58
 go_wp2
 all_goals go_ret
 all_goals exact ⟨rfl, rfl⟩
set_option maxRecDepth 100000 in
set_option maxHeartbeats 4000000 in
theorem l06Node_yes (n : Int) (w : World) (h : 0 ≤ n ∧ n < 10) : Calls Tryz.prog 52 #[.int .i64 n] w fun e w' => e = .returned (.bool true) ∧ w' = w := by
 obtain ⟨h1, h2⟩ := h
 have h3 : n ≤ 9 := by omega
 go_enter Tryz.func52, Tryz.ntmps52
 go_wp2
 all_goals go_ret
 all_goals exact ⟨rfl, rfl⟩
end Go.Proofs.YtaboodioabopnaaGreat
namespace Go.Proofs.YtaboodioabopnaaGreat
open Go.RowKit Nt Fr
set_option linter.unusedVariables false
def ArgI (w : World) (v : Value) (X : List Value) : Prop := ∃ A n c, v = .slice A n c ∧ VRow w A n X ∧ n ≤ maxLen
theorem ArgV.i {w : World} {v : Value} {X : List Value} (h : ArgV w v X) : ArgI w v X := by
 obtain ⟨A, n, c, rfl, h⟩ := h
 exact ⟨A, n, c, rfl, h.1, h.max⟩
theorem ArgI.below {w w' : World} {v : Value} {X : List Value} (h : ArgI w v X) (hb : Below w.heap.size w w') : ArgI w' v X := by
 obtain ⟨A, n, c, rfl, h, hn⟩ := h
 exact ⟨A, n, c, rfl, h.below hb (Nat.le_refl _), hn⟩
theorem ArgI.of {w : World} {A : Option Addr} {n c : Nat} {zs : List Int} (h : IsInts .i64 w A n c zs) : ArgI w (.slice A n c) (ints zs) := ⟨A, n, c, rfl, h.1, Nat.le_trans h.2.1 h.2.2.1⟩
structure FrI (w : World) (F : Fr) (a b : Value) : Prop where
 n : ArgI w a (ints F.xs)
 d : ArgI w b (ints F.ys)
theorem FrA.i {w : World} {F : Fr} {a b : Value} (h : FrA w F a b) : FrI w F a b := ⟨h.n.i, h.d.i⟩
theorem FrI.below {w w' : World} {F : Fr} {a b : Value} (h : FrI w F a b) (hb : Below w.heap.size w w') : FrI w' F a b := ⟨h.n.below hb, h.d.below hb⟩
structure LkI (w : World) (P Q R : Fr) (p0 p1 q0 q1 r0 r1 : Value) : Prop where
 p : FrI w P p0 p1
 q : FrI w Q q0 q1
 r : FrI w R r0 r1
theorem LkA.i {w : World} {P Q R : Fr} {p0 p1 q0 q1 r0 r1 : Value} (h : LkA w P Q R p0 p1 q0 q1 r0 r1) : LkI w P Q R p0 p1 q0 q1 r0 r1 := ⟨h.p.i, h.q.i, h.r.i⟩
theorem LkI.below {w w' : World} {P Q R : Fr} {p0 p1 q0 q1 r0 r1 : Value} (h : LkI w P Q R p0 p1 q0 q1 r0 r1) (hb : Below w.heap.size w w') : LkI w' P Q R p0 p1 q0 q1 r0 r1 := ⟨h.p.below hb, h.q.below hb, h.r.below hb⟩
theorem St.frI {w0 w : World} {bs : List (Nat × List Value)} {cs : List Chunk} (h : St w0 w bs cs) {F : Fr} {a b : Value} (ha : FrI w0 F a b) : FrI w F a b := ha.below h.below
def Fr.len (F : Fr) : Nat := F.xs.length + F.ys.length
theorem Fr.Good.len {F : Fr} (h : F.Good) : F.len ≤ 48 := by have := good_len h; unfold Fr.len; omega
theorem ArgI.len {w : World} {A : Option Addr} {n c : Nat} {zs : List Int} (h : VRow w A n (ints zs)) : n = zs.length := by have := h.1; rw [ints_len] at this; omega
def markL : Nat → Chunk → Chunk
 | _, [] => []
 | k, (v, X) :: r => (v, marksI k X.length) :: markL (k + X.length) r
def lenL : Chunk → Nat
 | [] => 0
 | (_, X) :: r => X.length + lenL r
theorem markL_app (l m : Chunk) (k : Nat) : markL k (l ++ m) = markL k l ++ markL (k + lenL l) m := by
 induction l generalizing k with
 | nil => simp [markL, lenL]
 | cons p r ih => obtain ⟨v, X⟩ := p; simp [markL, lenL, ih, Nat.add_assoc]
theorem markL_fst (l : Chunk) (k : Nat) : (markL k l).map Prod.fst = l.map Prod.fst := by
 induction l generalizing k with
 | nil => rfl
 | cons p r ih => obtain ⟨v, X⟩ := p; simp [markL, ih]
theorem blks_app (l m : Chunk) : blks (l ++ m) = blks l ++ blks m := by simp [blks]
def Marked (l : Chunk) (k base : Nat) (w : World) (e : Ending) (w' : World) : Prop :=
 e = .returned (.int .i64 ((k + lenL l : Nat) : Int)) ∧ Owns w' base (markL k l) ∧ Turned w w' (blks l)
section
variable (F : Fr) (a b : Value) (w : World)
theorem szRat_f (k : Int) (h0 : 0 ≤ k) (h1 : k ≤ 1048576) (h : FrI w F a b) : Calls Tryz.prog 50 #[.agg #[.bool F.s, a, b], .int .i64 k] w fun e w' => e = .returned (.int .i64 (szOf k F.len)) ∧ Below w.heap.size w w' := by
 obtain ⟨⟨A, n, c, rfl, hA, hn⟩, ⟨B, m, d, rfl, hB, hm⟩⟩ := h
 have e1 := ArgI.len (c := c) hA
 have e2 := ArgI.len (c := d) hB
 have := szRat_any F.s A n c B m d k w h0 h1 (by unfold maxLen at hn; omega) (by unfold maxLen at hm; omega)
 rw [e1, e2] at this ⊢
 exact this
theorem toRat_f (h : FrI w F a b) (hl : F.len ≤ 1048576) : Calls Tryz.prog 55 #[.agg #[.bool F.s, a, b]] w (OwnF F w) := by
 obtain ⟨⟨A, n, c, rfl, hA, hn⟩, ⟨B, m, d, rfl, hB, hm⟩⟩ := h
 have e1 := ArgI.len (c := c) hA
 have e2 := ArgI.len (c := d) hB
 unfold Fr.len at hl
 exact (toRat_any F.s A n c F.xs B m d F.ys w hA hB (by omega) (by omega)).mono fun _ _ h => h.f rfl rfl rfl
theorem eqRat_f (c d : Value) (h : FrI w F a b) (h2 : FrI w F c d) : Calls Tryz.prog 16 #[.agg #[.bool F.s, a, b], .agg #[.bool F.s, c, d]] w fun e w' => e = .returned (.bool true) ∧ Below w.heap.size w w' := by
 obtain ⟨⟨A, n, x, rfl, hA, hn⟩, ⟨B, m, y, rfl, hB, hm⟩⟩ := h
 obtain ⟨⟨C, p, z, rfl, hC, hp⟩, ⟨E, q, u, rfl, hE, hq⟩⟩ := h2
 have e1 := ArgI.len (c := x) hA
 have e2 := ArgI.len (c := y) hB
 obtain rfl : p = n := by have := ArgI.len (c := z) hC; omega
 obtain rfl : q = m := by have := ArgI.len (c := u) hE; omega
 exact eqRat_same F.s A C p x z F.xs B E q y u F.ys w hA hC hB hE hn hm
end
end Go.Proofs.YtaboodioabopnaaGreat
namespace Go.Proofs.YtaboodioabopnaaGreat
open Go.RowKit Nt Fr
set_option linter.unusedVariables false
end Go.Proofs.YtaboodioabopnaaGreat
namespace Go.Proofs.YtaboodioabopnaaGreat
open Go.RowKit Nt Fr
set_option linter.unusedVariables false
theorem Owns.part {w : World} {base : Nat} {l : Chunk} (h : Owns w base l) (a b c : Chunk) (e : l = a ++ (b ++ c)) : Owns w base b := by subst e; exact h.right.left
theorem Owns.head {w : World} {base : Nat} {l : Chunk} (h : Owns w base l) (a c : Chunk) (e : l = a ++ c) : Owns w base a := by subst e; exact h.left
theorem Marked.join {l m : Chunk} {k base : Nat} {w w1 w2 : World} (h : Owns w base (l ++ m)) (h1 : Owns w1 base (markL k l)) (t1 : Turned w w1 (blks l)) (h2 : Owns w2 base (markL (k + lenL l) m)) (t2 : Turned w1 w2 (blks m)) :
   Owns w2 base (markL k (l ++ m)) ∧ Turned w w2 (blks (l ++ m)) := by
 have hf : FarL (markL k l) (markL (k + lenL l) m) := by
   intro p hp q hq
   have a : p.1 ∈ l.map Prod.fst := by rw [← markL_fst l k]; exact List.mem_map_of_mem hp
   have b : q.1 ∈ m.map Prod.fst := by rw [← markL_fst m (k + lenL l)]; exact List.mem_map_of_mem hq
   obtain ⟨p', hp', e1⟩ := List.mem_map.mp a
   obtain ⟨q', hq', e2⟩ := List.mem_map.mp b
   rw [← e1, ← e2]
   exact h.far p' hp' q' hq'
 refine ⟨?_, by rw [blks_app]; exact t1.trans t2⟩
 rw [markL_app]
 refine Owns.app ⟨fun p hp => t2.own (h1.1 p hp) fun x hx => ?_, h1.2⟩ h2 hf
 have : x ∈ blks (markL (k + lenL l) m) := by
   have e : blks (markL (k + lenL l) m) = blks m := by
     unfold blks
     have := congrArg (List.map Value.ownBlock) (markL_fst m (k + lenL l))
     simpa [List.map_map, Function.comp_def] using this
   rw [e]; exact hx
 obtain ⟨q, hq, rfl⟩ := List.mem_map.mp this
 exact hf p hp q hq
end Go.Proofs.YtaboodioabopnaaGreat
namespace Go.Proofs.YtaboodioabopnaaGreat
open Go.RowKit Nt Fr
set_option linter.unusedVariables false
structure PtA (w : World) (X Y : Fr) (x0 x1 y0 y1 : Value) : Prop where
 x : FrA w X x0 x1
 y : FrA w Y y0 y1
theorem PtA.below {w w' : World} {X Y : Fr} {x0 x1 y0 y1 : Value} (h : PtA w X Y x0 x1 y0 y1) (hb : Below w.heap.size w w') : PtA w' X Y x0 x1 y0 y1 := ⟨h.x.below hb, h.y.below hb⟩
end Go.Proofs.YtaboodioabopnaaGreat
namespace Go.Proofs.YtaboodioabopnaaGreat
open Go.RowKit Nt Fr
set_option linter.unusedVariables false
structure PtI (w : World) (X Y : Fr) (x0 x1 y0 y1 : Value) : Prop where
 x : FrI w X x0 x1
 y : FrI w Y y0 y1
theorem PtA.i {w : World} {X Y : Fr} {x0 x1 y0 y1 : Value} (h : PtA w X Y x0 x1 y0 y1) : PtI w X Y x0 x1 y0 y1 := ⟨h.x.i, h.y.i⟩
theorem PtI.below {w w' : World} {X Y : Fr} {x0 x1 y0 y1 : Value} (h : PtI w X Y x0 x1 y0 y1) (hb : Below w.heap.size w w') : PtI w' X Y x0 x1 y0 y1 := ⟨h.x.below hb, h.y.below hb⟩
end Go.Proofs.YtaboodioabopnaaGreat
namespace Go.Proofs.YtaboodioabopnaaGreat
open Go.ChangeShapes Go.WideShapes Go.ChangeAt Go.RowKit Go.Joins Go.Deep
set_option linter.unusedVariables false
def RatT (P : Program) (t : TypeId) : Prop :=
 ∃ (e : TypeId) (F0 F1 f0 f1 : Field), P.underlying t = some (.struct #[F0, F1]) ∧ P.underlying F0.type = some (.struct #[f0, f1]) ∧ F0.offset = 0 ∧ F1.offset = 2 ∧ P.cellsOf F0.type = 2 ∧ P.cellsOf F1.type = 1 ∧ oneCellFields P #[f0, f1] = true ∧ P.cellsOf t = 3 ∧ P.underlying f0.type = some .bool ∧ P.underlying f1.type = some (.slice e) ∧ P.underlying F1.type = some (.slice e) ∧ P.underlying e = some (.int .i64) ∧ P.cellsOf e = 1
theorem ratT : RatT Tryz.prog 54 :=
 ⟨_, _, _, _, _, Tryz.underlying54, Tryz.underlying52, rfl, rfl, by kernel_rfl, by kernel_rfl, by kernel_rfl, by kernel_rfl, Tryz.underlying4, Tryz.underlying33, Tryz.underlying33, Tryz.underlying3, by kernel_rfl⟩
section
variable {H : Type} {enc : TypeId × Value → H} {P : Program} {w : World}
theorem rat_cells {t : TypeId} {fuel : Nat} {c0 c1 c2 : Value} {x : DataW H × List MemPlace} (hr : RatT P t) (h : DataW.trod enc P w 0 (fun _ => true) true fuel t [c0, c1, c2] = some x) : ∃ F : Fr, c0 = .bool F.s ∧ FrI w F c1 c2 := by
 obtain ⟨e, F0, F1, f0, f1, hs, hs2, ho0, ho1, hc0, hc1, hone, hC, h0, h1, h2, he, hc⟩ := hr
 obtain ⟨y0, y1, n, hx, _, g0, g1⟩ := trod_struct2 hs h
 have g0' : DataW.trod enc P w 0 (fun _ => true) true n F0.type [c0, c1] = some y0 := by simpa [Value.cells, ho0, hc0] using g0
 have g1' : DataW.trod enc P w 0 (fun _ => true) true n F1.type [c2] = some y1 := by simpa [Value.cells, ho1, hc1] using g1
 obtain ⟨z0, z1, m, hx2, _, q0, q1⟩ := trod_struct2 hs2 g0'
 obtain ⟨o0, k0⟩ := hone_of hone 0 f0 rfl
 obtain ⟨o1, k1⟩ := hone_of hone 1 f1 rfl
 have q0' : DataW.trod enc P w 0 (fun _ => true) true m f0.type [c0] = some z0 := by simpa [o0, k0] using q0
 have q1' : DataW.trod enc P w 0 (fun _ => true) true m f1.type [c1] = some z1 := by simpa [o1, k1] using q1
 obtain ⟨s, e0, _⟩ := DataW.trod_bool h0 q0'
 obtain ⟨a, l, c, e1⟩ := slice_form h1 q1'
 obtain ⟨a', l', c', e2⟩ := slice_form h2 g1'
 simp at e0 e1 e2
 subst e0 e1 e2
 obtain ⟨zs, hz⟩ := isInts_of h1 he hc (⟨m, by simpa [Value.cells] using q1'⟩ : DataW.Trod enc P w 0 (fun _ => true) true f1.type (.slice a l c) z1.1 z1.2)
 obtain ⟨zs', hz'⟩ := isInts_of h2 he hc (⟨n, by simpa [Value.cells] using g1'⟩ : DataW.Trod enc P w 0 (fun _ => true) true F1.type (.slice a' l' c') y1.1 y1.2)
 exact ⟨⟨s, zs, zs'⟩, rfl, ⟨ArgI.of hz, ArgI.of hz'⟩⟩
end
end Go.Proofs.YtaboodioabopnaaGreat
