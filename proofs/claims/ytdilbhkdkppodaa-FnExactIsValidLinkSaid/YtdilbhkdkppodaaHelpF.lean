/- The laws' helpers over fractions and links: sizes, copies, comparisons, marks. Conditions: none. -/
import Derived.Test.YtdilbhkdkppodaaLk1
namespace Go.Proofs.Ytdilbhkdkppodaa
open Go.RowKit Nt Fr
set_option linter.unusedVariables false

/-- A slice that came in, read as X. -/
def ArgI (w : World) (v : Value) (X : List Value) : Prop := ∃ A n c, v = .slice A n c ∧ VRow w A n X ∧ n ≤ maxLen
theorem ArgV.i {w : World} {v : Value} {X : List Value} (h : ArgV w v X) : ArgI w v X := by
  obtain ⟨A, n, c, rfl, h⟩ := h
  exact ⟨A, n, c, rfl, h.1, h.max⟩
theorem ArgI.below {w w' : World} {v : Value} {X : List Value} (h : ArgI w v X) (hb : Below w.heap.size w w') : ArgI w' v X := by
  obtain ⟨A, n, c, rfl, h, hn⟩ := h
  exact ⟨A, n, c, rfl, h.below hb (Nat.le_refl _), hn⟩
theorem ArgI.of {w : World} {A : Option Addr} {n c : Nat} {zs : List Int} (h : IsInts .i64 w A n c zs) : ArgI w (.slice A n c) (ints zs) := ⟨A, n, c, rfl, h.1, Nat.le_trans h.2.1 h.2.2.1⟩
structure FrI (w : World) (F : Fr) (a b : Value) : Prop where
  n : ArgI w a (ints F.xs)
  d : ArgI w b (ints F.ys)
theorem FrA.i {w : World} {F : Fr} {a b : Value} (h : FrA w F a b) : FrI w F a b := ⟨h.n.i, h.d.i⟩
theorem FrI.below {w w' : World} {F : Fr} {a b : Value} (h : FrI w F a b) (hb : Below w.heap.size w w') : FrI w' F a b := ⟨h.n.below hb, h.d.below hb⟩
structure LkI (w : World) (P Q R : Fr) (p0 p1 q0 q1 r0 r1 : Value) : Prop where
  p : FrI w P p0 p1
  q : FrI w Q q0 q1
  r : FrI w R r0 r1
theorem LkA.i {w : World} {P Q R : Fr} {p0 p1 q0 q1 r0 r1 : Value} (h : LkA w P Q R p0 p1 q0 q1 r0 r1) : LkI w P Q R p0 p1 q0 q1 r0 r1 := ⟨h.p.i, h.q.i, h.r.i⟩
theorem LkI.below {w w' : World} {P Q R : Fr} {p0 p1 q0 q1 r0 r1 : Value} (h : LkI w P Q R p0 p1 q0 q1 r0 r1) (hb : Below w.heap.size w w') : LkI w' P Q R p0 p1 q0 q1 r0 r1 := ⟨h.p.below hb, h.q.below hb, h.r.below hb⟩
theorem St.frI {w0 w : World} {bs : List (Nat × List Value)} {cs : List Chunk} (h : St w0 w bs cs) {F : Fr} {a b : Value} (ha : FrI w0 F a b) : FrI w F a b := ha.below h.below
theorem St.lkI {w0 w : World} {bs : List (Nat × List Value)} {cs : List Chunk} (h : St w0 w bs cs) {P Q R : Fr} {p0 p1 q0 q1 r0 r1 : Value} (ha : LkI w0 P Q R p0 p1 q0 q1 r0 r1) : LkI w P Q R p0 p1 q0 q1 r0 r1 := ha.below h.below
/-- How many limbs. -/
def Fr.len (F : Fr) : Nat := F.xs.length + F.ys.length
theorem Fr.Good.len {F : Fr} (h : F.Good) : F.len ≤ 48 := by have := good_len h; unfold Fr.len; omega
theorem ArgI.len {w : World} {A : Option Addr} {n c : Nat} {zs : List Int} (h : VRow w A n (ints zs)) : n = zs.length := by have := h.1; rw [ints_len] at this; omega
/-- Marks over the rows of a chunk. -/
def markL : Nat → Chunk → Chunk
  | _, [] => []
  | k, (v, X) :: r => (v, marksI k X.length) :: markL (k + X.length) r
def lenL : Chunk → Nat
  | [] => 0
  | (_, X) :: r => X.length + lenL r
theorem lenL_app (l m : Chunk) : lenL (l ++ m) = lenL l + lenL m := by
  induction l with
  | nil => simp [lenL]
  | cons p r ih => obtain ⟨v, X⟩ := p; simp [lenL, ih]; omega
theorem markL_app (l m : Chunk) (k : Nat) : markL k (l ++ m) = markL k l ++ markL (k + lenL l) m := by
  induction l generalizing k with
  | nil => simp [markL, lenL]
  | cons p r ih => obtain ⟨v, X⟩ := p; simp [markL, lenL, ih, Nat.add_assoc]
theorem markL_fst (l : Chunk) (k : Nat) : (markL k l).map Prod.fst = l.map Prod.fst := by
  induction l generalizing k with
  | nil => rfl
  | cons p r ih => obtain ⟨v, X⟩ := p; simp [markL, ih]
theorem markL_len (l : Chunk) (k : Nat) : lenL (markL k l) = lenL l := by
  induction l generalizing k with
  | nil => rfl
  | cons p r ih => obtain ⟨v, X⟩ := p; simp [markL, lenL, ih, marksI_len]
theorem blks_app (l m : Chunk) : blks (l ++ m) = blks l ++ blks m := by simp [blks]
/-- What marking a chunk leaves. -/
def Marked (l : Chunk) (k base : Nat) (w : World) (e : Ending) (w' : World) : Prop :=
  e = .returned (.int .i64 ((k + lenL l : Nat) : Int)) ∧ Owns w' base (markL k l) ∧ Turned w w' (blks l)
theorem St.marked {w0 w w' : World} {bs : List (Nat × List Value)} {cs : List Chunk} (h : St w0 w bs cs) (i : Nat) {l : Chunk} {k : Nat} (e : cs[i]? = some l) (ho : Owns w' w0.heap.size (markL k l)) (ht : Turned w w' (blks l)) : St w0 w' bs (cs.set i (markL k l)) := h.mark i e (markL_fst l k) ho ht
section
variable (F : Fr) (a b : Value) (w : World)
theorem szRat_f (k : Int) (h0 : 0 ≤ k) (h1 : k ≤ 1048576) (h : FrI w F a b) : Calls Try.prog 23 #[.agg #[.bool F.s, a, b], .int .i64 k] w fun e w' => e = .returned (.int .i64 (szOf k F.len)) ∧ Below w.heap.size w w' := by
  obtain ⟨⟨A, n, c, rfl, hA, hn⟩, ⟨B, m, d, rfl, hB, hm⟩⟩ := h
  have e1 := ArgI.len (c := c) hA
  have e2 := ArgI.len (c := d) hB
  have := szRat_any F.s A n c B m d k w h0 h1 (by unfold maxLen at hn; omega) (by unfold maxLen at hm; omega)
  rw [e1, e2] at this ⊢
  exact this
theorem toRat_f (h : FrI w F a b) (hl : F.len ≤ 1048576) : Calls Try.prog 27 #[.agg #[.bool F.s, a, b]] w (OwnF F w) := by
  obtain ⟨⟨A, n, c, rfl, hA, hn⟩, ⟨B, m, d, rfl, hB, hm⟩⟩ := h
  have e1 := ArgI.len (c := c) hA
  have e2 := ArgI.len (c := d) hB
  unfold Fr.len at hl
  exact (toRat_any F.s A n c F.xs B m d F.ys w hA hB (by omega) (by omega)).mono fun _ _ h => h.f rfl rfl rfl
theorem eqRat_f (c d : Value) (h : FrI w F a b) (h2 : FrI w F c d) : Calls Try.prog 31 #[.agg #[.bool F.s, a, b], .agg #[.bool F.s, c, d]] w fun e w' => e = .returned (.bool true) ∧ Below w.heap.size w w' := by
  obtain ⟨⟨A, n, x, rfl, hA, hn⟩, ⟨B, m, y, rfl, hB, hm⟩⟩ := h
  obtain ⟨⟨C, p, z, rfl, hC, hp⟩, ⟨E, q, u, rfl, hE, hq⟩⟩ := h2
  have e1 := ArgI.len (c := x) hA
  have e2 := ArgI.len (c := y) hB
  obtain rfl : p = n := by have := ArgI.len (c := z) hC; omega
  obtain rfl : q = m := by have := ArgI.len (c := u) hE; omega
  exact eqRat_same F.s A C p x z F.xs B E q y u F.ys w hA hC hB hE hn hm
theorem markRat_f (s : Bool) (X Y : List Value) (k base : Nat) (K : Int) (hK : K = (k : Int)) (h : Owns w base [(a, X), (b, Y)]) (hn : k + lenL [(a, X), (b, Y)] ≤ 1099511627776) : Calls Try.prog 36 #[.agg #[.bool s, a, b], .int .i64 K] w (Marked [(a, X), (b, Y)] k base w) := by
  have ha := h.at_ 0 rfl
  have hb := h.at_ 1 rfl
  have ap := List.pairwise_cons.mp h.2
  have ap0 : Far a.ownBlock b.ownBlock := ap.1 (b, Y) (by simp)
  obtain ⟨A, c, rfl⟩ := ha.shape
  obtain ⟨B, d, rfl⟩ := hb.shape
  simp only [lenL] at hn
  refine (markRat_at s A X.length c B Y.length d k base K hK X Y w ha hb ap0.ne ap0.symm.ne (by omega)).mono ?_
  rintro e w' ⟨rfl, wm, hg0, hg1, ho0, ho1⟩
  refine ⟨by simp only [lenL]; congr 3; omega, ⟨?_, ?_⟩, ((Turned.of_grown hg0).trans (Turned.of_grown hg1)).mono (by simp [blks])⟩
  · intro p hp
    simp only [markL, List.mem_cons, List.not_mem_nil, or_false] at hp
    rcases hp with rfl | rfl
    · exact ho0
    · exact ho1
  · simp only [markL, List.pairwise_cons, List.mem_singleton, forall_eq, List.not_mem_nil, false_imp_iff, implies_true, List.Pairwise.nil, and_true]
    exact ap0
theorem heldRat_f (s : Bool) (X Y : List Value) (k base : Nat) (K : Int) (hK : K = (k : Int)) (h : Owns w base (markL k [(a, X), (b, Y)])) (hn : k + lenL [(a, X), (b, Y)] ≤ 1099511627776) : Calls Try.prog 37 #[.agg #[.bool s, a, b], .int .i64 K] w fun e w' => e = .returned (.int .i64 ((k + lenL [(a, X), (b, Y)] : Nat) : Int)) ∧ Below w.heap.size w w' := by
  have ha := h.at_ 0 rfl
  have hb := h.at_ 1 rfl
  obtain ⟨A, c, rfl⟩ := ha.shape
  obtain ⟨B, d, rfl⟩ := hb.shape
  simp only [lenL] at hn
  have l1 := marksI_len k X.length
  have l2 := marksI_len (k + X.length) Y.length
  have := heldRat_at s A X.length c B Y.length d k K hK w (by have := ha.row; rw [l1] at this; exact this) (by have := hb.row; rw [l2] at this; exact this) (by omega)
  rw [l1, l2]
  refine this.mono ?_
  rintro e w' ⟨rfl, h⟩
  exact ⟨by simp only [lenL]; congr 3; omega, h⟩
end
set_option maxRecDepth 100000 in
set_option maxHeartbeats 4000000 in
theorem szLink_f (A B : Int) (P Q R : Fr) (p0 p1 q0 q1 r0 r1 : Value) (w : World) (k : Int) (h0 : 0 ≤ k) (h1 : k ≤ 1048576) (hL : LkI w P Q R p0 p1 q0 q1 r0 r1) :
    Calls Try.prog 7 #[.agg #[.int .i64 A, .int .i64 B, .bool P.s, p0, p1, .bool Q.s, q0, q1, .bool R.s, r0, r1], .int .i64 k] w fun e w' => e = .returned (.int .i64 (szOf k (P.len + Q.len + R.len))) ∧ Below w.heap.size w w' := by
  have HL := Lib.hid hL
  clear hL
  have S_1 := Lib.hid (show St w (w.alloc (.cells #[.int .i64 A, .int .i64 B, .bool P.s, p0, p1, .bool Q.s, q0, q1, .bool R.s, r0, r1] 28)) [(w.heap.size, [.int .i64 A, .int .i64 B, .bool P.s, p0, p1, .bool Q.s, q0, q1, .bool R.s, r0, r1])] [] from ((St.start w).alloc_at (b := w.heap.size) [.int .i64 A, .int .i64 B, .bool P.s, p0, p1, .bool Q.s, q0, q1, .bool R.s, r0, r1] 28 (by first | rfl | simp)))
  go_enter Try.func7, Try.ntmps7
  have hk_a_0_1 := S_1.out.cell 0 0 rfl rfl
  have hk_a_1_1 := S_1.out.cell 0 1 rfl rfl
  have hk_a_2_1 := S_1.out.cell 0 2 rfl rfl
  have hk_a_3_1 := S_1.out.cell 0 3 rfl rfl
  have hk_a_4_1 := S_1.out.cell 0 4 rfl rfl
  have hk_a_5_1 := S_1.out.cell 0 5 rfl rfl
  have hk_a_6_1 := S_1.out.cell 0 6 rfl rfl
  have hk_a_7_1 := S_1.out.cell 0 7 rfl rfl
  have hk_a_8_1 := S_1.out.cell 0 8 rfl rfl
  have hk_a_9_1 := S_1.out.cell 0 9 rfl rfl
  have hk_a_10_1 := S_1.out.cell 0 10 rfl rfl
  go_wp2_with fail
  refine (szRat_f P p0 p1 _ (k) (by omega) (by omega) (S_1.out.lkI HL.out).p).mono ?_
  rintro e w1 ⟨rfl, hb⟩
  have S_2 := Lib.hid (S_1.out.call hb)
  clear S_1
  clear hb
  clear hk_a_0_1 hk_a_1_1 hk_a_2_1 hk_a_3_1 hk_a_4_1 hk_a_5_1 hk_a_6_1 hk_a_7_1 hk_a_8_1 hk_a_9_1 hk_a_10_1
  by_cases hs0 : k < (P.len : Int)
  · rw [szOf_neg hs0]
    go_wp2
    go_ret
    exact ⟨ret_int (szOf_neg (by omega)).symm, S_2.out.below⟩
  · rw [szOf_pos hs0]
    obtain ⟨k0, hk0⟩ : ∃ q : Int, k - (P.len : Int) = q := ⟨_, rfl⟩
    rw [hk0]
    have hk_a_0_2 := S_2.out.cell 0 0 rfl rfl
    have hk_a_1_2 := S_2.out.cell 0 1 rfl rfl
    have hk_a_2_2 := S_2.out.cell 0 2 rfl rfl
    have hk_a_3_2 := S_2.out.cell 0 3 rfl rfl
    have hk_a_4_2 := S_2.out.cell 0 4 rfl rfl
    have hk_a_5_2 := S_2.out.cell 0 5 rfl rfl
    have hk_a_6_2 := S_2.out.cell 0 6 rfl rfl
    have hk_a_7_2 := S_2.out.cell 0 7 rfl rfl
    have hk_a_8_2 := S_2.out.cell 0 8 rfl rfl
    have hk_a_9_2 := S_2.out.cell 0 9 rfl rfl
    have hk_a_10_2 := S_2.out.cell 0 10 rfl rfl
    go_wp2_with fail
    refine (szRat_f Q q0 q1 _ (k0) (by omega) (by omega) (S_2.out.lkI HL.out).q).mono ?_
    rintro e w2 ⟨rfl, hb⟩
    have S_3 := Lib.hid (S_2.out.call hb)
    clear S_2
    clear hb
    clear hk_a_0_2 hk_a_1_2 hk_a_2_2 hk_a_3_2 hk_a_4_2 hk_a_5_2 hk_a_6_2 hk_a_7_2 hk_a_8_2 hk_a_9_2 hk_a_10_2
    by_cases hs1 : k0 < (Q.len : Int)
    · rw [szOf_neg hs1]
      go_wp2
      go_ret
      exact ⟨ret_int (szOf_neg (by omega)).symm, S_3.out.below⟩
    · rw [szOf_pos hs1]
      obtain ⟨k1, hk1⟩ : ∃ q : Int, k0 - (Q.len : Int) = q := ⟨_, rfl⟩
      rw [hk1]
      have hk_a_0_3 := S_3.out.cell 0 0 rfl rfl
      have hk_a_1_3 := S_3.out.cell 0 1 rfl rfl
      have hk_a_2_3 := S_3.out.cell 0 2 rfl rfl
      have hk_a_3_3 := S_3.out.cell 0 3 rfl rfl
      have hk_a_4_3 := S_3.out.cell 0 4 rfl rfl
      have hk_a_5_3 := S_3.out.cell 0 5 rfl rfl
      have hk_a_6_3 := S_3.out.cell 0 6 rfl rfl
      have hk_a_7_3 := S_3.out.cell 0 7 rfl rfl
      have hk_a_8_3 := S_3.out.cell 0 8 rfl rfl
      have hk_a_9_3 := S_3.out.cell 0 9 rfl rfl
      have hk_a_10_3 := S_3.out.cell 0 10 rfl rfl
      go_wp2_with fail
      refine (szRat_f R r0 r1 _ (k1) (by omega) (by omega) (S_3.out.lkI HL.out).r).mono ?_
      rintro e w3 ⟨rfl, hb⟩
      have S_4 := Lib.hid (S_3.out.call hb)
      clear S_3
      clear hb
      clear hk_a_0_3 hk_a_1_3 hk_a_2_3 hk_a_3_3 hk_a_4_3 hk_a_5_3 hk_a_6_3 hk_a_7_3 hk_a_8_3 hk_a_9_3 hk_a_10_3
      by_cases hs2 : k1 < (R.len : Int)
      · rw [szOf_neg hs2]
        go_wp2
        go_ret
        exact ⟨ret_int (szOf_neg (by omega)).symm, S_4.out.below⟩
      · rw [szOf_pos hs2]
        obtain ⟨k2, hk2⟩ : ∃ q : Int, k1 - (R.len : Int) = q := ⟨_, rfl⟩
        rw [hk2]
        go_wp2
        go_ret
        exact ⟨ret_int (by rw [szOf_pos (by omega)]; omega), S_4.out.below⟩
theorem newLink_len (a b k x y : Int) : (nlP a b k x y).len + (nlQ a b k x y).len + (nlR a b k x y).len ≤ 1048576 := by
  have := nl_len a b k x y
  unfold Fr.len
  omega
end Go.Proofs.Ytdilbhkdkppodaa
