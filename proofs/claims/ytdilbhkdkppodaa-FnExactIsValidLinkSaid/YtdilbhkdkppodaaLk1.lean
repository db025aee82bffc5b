/- Links: what both sides answer to IsValidLink and NewLink. Conditions: none. -/
import Derived.Test.YtdilbhkdkppodaaFr
namespace Go.Proofs.Ytdilbhkdkppodaa
open Go.RowKit Nt Fr
set_option linter.unusedVariables false

theorem ret_b {x y : Bool} {w w' : World} (h : x = y) (hb : Below w.heap.size w w') : Ending.returned (.bool x) = .returned (.bool y) ∧ Below w.heap.size w w' := ⟨by rw [h], hb⟩
/-- Is it a node? -/
def nodeK (n : Int) : Bool := decide (0 ≤ n ∧ n < 10)
/-- Is it a link? -/
def okK (A B : Int) (P Q R : Fr) : Bool := decide (0 ≤ A ∧ A < 10) && (decide (0 ≤ B ∧ B < 10) && (decide (A < B) && (decide (0 < P.sgn) && (Q.ok && R.ok))))
theorem okK_1 {A B : Int} {P Q R : Fr} (h : ¬ (0 ≤ A ∧ A < 10)) : false = okK A B P Q R := by unfold okK; rw [decide_eq_false h]; rfl
theorem okK_2 {A B : Int} {P Q R : Fr} (h : ¬ (0 ≤ B ∧ B < 10)) : false = okK A B P Q R := by unfold okK; rw [decide_eq_false h]; simp
theorem okK_3 {A B : Int} {P Q R : Fr} (h : ¬ A < B) : false = okK A B P Q R := by unfold okK; rw [decide_eq_false h]; simp
theorem okK_4 {A B : Int} {P Q R : Fr} (h : ¬ 0 < P.sgn) : false = okK A B P Q R := by unfold okK; rw [decide_eq_false h]; simp
theorem okK_5 {A B : Int} {P Q R : Fr} (h1 : 0 ≤ A ∧ A < 10) (h2 : 0 ≤ B ∧ B < 10) (h3 : A < B) (h4 : 0 < P.sgn) : (Q.ok && R.ok) = okK A B P Q R := by unfold okK; rw [decide_eq_true h1, decide_eq_true h2, decide_eq_true h3, decide_eq_true h4]; rfl
theorem okK_parts {A B : Int} {P Q R : Fr} (h : okK A B P Q R = true) : (0 ≤ A ∧ A < 10) ∧ (0 ≤ B ∧ B < 10) ∧ A < B ∧ 0 < P.sgn ∧ Q.ok = true ∧ R.ok = true := by
  unfold okK at h
  simpa only [Bool.and_eq_true, decide_eq_true_eq] using h
theorem sgn_ok {P : Fr} (h : 0 < P.sgn) : P.ok = true := by
  cases hk : P.ok with
  | true => rfl
  | false => unfold Fr.sgn at h; rw [sgnR_no hk] at h; exact absurd h (by decide)
/-- A link that may be read. -/
structure LkA (w : World) (P Q R : Fr) (p0 p1 q0 q1 r0 r1 : Value) : Prop where
  p : FrA w P p0 p1
  q : FrA w Q q0 q1
  r : FrA w R r0 r1
theorem LkA.below {w w' : World} {P Q R : Fr} {p0 p1 q0 q1 r0 r1 : Value} (h : LkA w P Q R p0 p1 q0 q1 r0 r1) (hb : Below w.heap.size w w') : LkA w' P Q R p0 p1 q0 q1 r0 r1 := ⟨h.p.below hb, h.q.below hb, h.r.below hb⟩
/-- The rows of a link. -/
def rowsK (P Q R : Fr) (p0 p1 q0 q1 r0 r1 : Value) : Chunk := [(p0, ints P.xs), (p1, ints P.ys), (q0, ints Q.xs), (q1, ints Q.ys), (r0, ints R.xs), (r1, ints R.ys)]
theorem Owns.lk {w : World} {base : Nat} {P Q R : Fr} {p0 p1 q0 q1 r0 r1 : Value} (h : Owns w base (rowsK P Q R p0 p1 q0 q1 r0 r1)) : LkA w P Q R p0 p1 q0 q1 r0 r1 :=
  ⟨h.frAt 0 rfl rfl, h.frAt 2 rfl rfl, h.frAt 4 rfl rfl⟩
theorem St.lk {w0 w : World} {bs : List (Nat × List Value)} {cs : List Chunk} (h : St w0 w bs cs) (k : Nat) {P Q R : Fr} {p0 p1 q0 q1 r0 r1 : Value} (e : cs[k]? = some (rowsK P Q R p0 p1 q0 q1 r0 r1)) : LkA w P Q R p0 p1 q0 q1 r0 r1 := (h.own k e).lk
theorem St.lkA {w0 w : World} {bs : List (Nat × List Value)} {cs : List Chunk} (h : St w0 w bs cs) {P Q R : Fr} {p0 p1 q0 q1 r0 r1 : Value} (ha : LkA w0 P Q R p0 p1 q0 q1 r0 r1) : LkA w P Q R p0 p1 q0 q1 r0 r1 := ha.below h.below
/-- What a function leaves that answers a link. -/
def OwnK (A B : Int) (P Q R : Fr) (w : World) (en : Ending) (w' : World) : Prop :=
  ∃ p0 p1 q0 q1 r0 r1, en = .returned (.agg #[.int .i64 A, .int .i64 B, .bool P.s, p0, p1, .bool Q.s, q0, q1, .bool R.s, r0, r1]) ∧ Owns w' w.heap.size (rowsK P Q R p0 p1 q0 q1 r0 r1) ∧ Below w.heap.size w w'
/-- .. and a report. -/
def OwnKB (A B : Int) (P Q R : Fr) (ok : Bool) (w : World) (en : Ending) (w' : World) : Prop :=
  ∃ p0 p1 q0 q1 r0 r1, en = .returned (.tuple #[.agg #[.int .i64 A, .int .i64 B, .bool P.s, p0, p1, .bool Q.s, q0, q1, .bool R.s, r0, r1], .bool ok]) ∧ Owns w' w.heap.size (rowsK P Q R p0 p1 q0 q1 r0 r1) ∧ Below w.heap.size w w'
set_option maxRecDepth 100000 in
set_option maxHeartbeats 4000000 in
theorem isCoord_yes (n : Int) (w : World) (h : -1000000 ≤ n ∧ n ≤ 1000000) : Calls Try.prog 34 #[.int .i64 n] w fun e w' => e = .returned (.bool true) ∧ w' = w := by
  obtain ⟨h1, h2⟩ := h
  go_enter Try.func34, Try.ntmps34
  go_wp2
  all_goals go_ret
  all_goals exact ⟨rfl, rfl⟩
set_option maxRecDepth 100000 in
set_option maxHeartbeats 4000000 in
theorem isNode_yes (n : Int) (w : World) (h : 0 ≤ n ∧ n < 10) : Calls Try.prog 28 #[.int .i64 n] w fun e w' => e = .returned (.bool true) ∧ w' = w := by
  obtain ⟨h1, h2⟩ := h
  have h3 : n ≤ 9 := by omega
  go_enter Try.func28, Try.ntmps28
  go_wp2
  all_goals go_ret
  all_goals exact ⟨rfl, rfl⟩
set_option maxRecDepth 100000 in
set_option maxHeartbeats 4000000 in
theorem l06Node_yes (n : Int) (w : World) (h : 0 ≤ n ∧ n < 10) : Calls Try.prog 24 #[.int .i64 n] w fun e w' => e = .returned (.bool true) ∧ w' = w := by
  obtain ⟨h1, h2⟩ := h
  have h3 : n ≤ 9 := by omega
  go_enter Try.func24, Try.ntmps24
  go_wp2
  all_goals go_ret
  all_goals exact ⟨rfl, rfl⟩
set_option maxRecDepth 100000 in
set_option maxHeartbeats 4000000 in
theorem isValidLink_i (A B : Int) (P Q R : Fr) (p0 p1 q0 q1 r0 r1 : Value) (w : World) (hL : LkA w P Q R p0 p1 q0 q1 r0 r1) :
    Calls Try.prog 10 #[.agg #[.int .i64 A, .int .i64 B, .bool P.s, p0, p1, .bool Q.s, q0, q1, .bool R.s, r0, r1]] w fun e w' => e = .returned (.bool (okK A B P Q R)) ∧ Below w.heap.size w w' := by
  have HL := Lib.hid hL
  clear hL
  obtain ⟨g, hg⟩ : ∃ z, P.sgn = z := ⟨_, rfl⟩
  have HG := Lib.hid hg
  clear hg
  have S_1 := Lib.hid (show St w (w.alloc (.cells #[.int .i64 A, .int .i64 B, .bool P.s, p0, p1, .bool Q.s, q0, q1, .bool R.s, r0, r1] 35)) [(w.heap.size, [.int .i64 A, .int .i64 B, .bool P.s, p0, p1, .bool Q.s, q0, q1, .bool R.s, r0, r1])] [] from ((St.start w).alloc_at (b := w.heap.size) [.int .i64 A, .int .i64 B, .bool P.s, p0, p1, .bool Q.s, q0, q1, .bool R.s, r0, r1] 35 (by first | rfl | simp)))
  by_cases h1 : 0 ≤ A ∧ A < 10
  · by_cases h2 : 0 ≤ B ∧ B < 10
    · by_cases h3 : A < B
      · have H1 := Lib.hid h1
        have H2 := Lib.hid h2
        have H3 := Lib.hid h3
        go_enter Try.func10, Try.ntmps10
        go_wp2_with fail
        refine (isNode_yes A _ H1.out).mono ?_
        rintro e w' ⟨rfl, hw⟩
        subst hw
        go_wp2_with fail
        refine (isNode_yes B _ H2.out).mono ?_
        rintro e w' ⟨rfl, hw⟩
        subst hw
        go_wp2_with fail
        refine (ratSign_i P p0 p1 _ (S_1.out.lkA HL.out).p).mono ?_
        rintro e w1 ⟨rfl, hb⟩
        have S_2 := Lib.hid (S_1.out.call hb)
        clear S_1
        clear hb
        rw [HG.out]
        by_cases h4 : 0 < g
        · have H4 := Lib.hid h4
          have hk_a_0_2 := S_2.out.cell 0 0 rfl rfl
          have hk_a_1_2 := S_2.out.cell 0 1 rfl rfl
          have hk_a_2_2 := S_2.out.cell 0 2 rfl rfl
          have hk_a_3_2 := S_2.out.cell 0 3 rfl rfl
          have hk_a_4_2 := S_2.out.cell 0 4 rfl rfl
          have hk_a_5_2 := S_2.out.cell 0 5 rfl rfl
          have hk_a_6_2 := S_2.out.cell 0 6 rfl rfl
          have hk_a_7_2 := S_2.out.cell 0 7 rfl rfl
          have hk_a_8_2 := S_2.out.cell 0 8 rfl rfl
          have hk_a_9_2 := S_2.out.cell 0 9 rfl rfl
          have hk_a_10_2 := S_2.out.cell 0 10 rfl rfl
          go_wp2_with fail
          refine (areValid_f Q R q0 q1 r0 r1 _ (S_2.out.lkA HL.out).q (S_2.out.lkA HL.out).r).mono ?_
          rintro e w2 ⟨rfl, hb⟩
          have S_3 := Lib.hid (S_2.out.call hb)
          clear S_2
          clear hb
          go_wp2
          all_goals go_ret
          all_goals exact ret_b (okK_5 H1.out H2.out H3.out (by rw [HG.out]; exact H4.out)) S_3.out.below
        · have H4 := Lib.hid h4
          go_wp2
          all_goals go_ret
          all_goals exact ret_b (okK_4 (by rw [HG.out]; have := H4.out; omega)) S_2.out.below
      · have H3 := Lib.hid h3
        go_enter Try.func10, Try.ntmps10
        go_wp2
        all_goals go_ret
        all_goals exact ret_b (okK_3 (by have := H3.out; omega)) S_1.out.below
    · have H2 := Lib.hid h2
      go_enter Try.func10, Try.ntmps10
      go_wp2
      all_goals go_ret
      all_goals exact ret_b (okK_2 H2.out) S_1.out.below
  · have H1 := Lib.hid h1
    go_enter Try.func10, Try.ntmps10
    go_wp2
    all_goals go_ret
    all_goals exact ret_b (okK_1 H1.out) S_1.out.below
set_option maxRecDepth 100000 in
set_option maxHeartbeats 4000000 in
theorem isValidLink_s (A B : Int) (P Q R : Fr) (p0 p1 q0 q1 r0 r1 : Value) (w : World) (hL : LkA w P Q R p0 p1 q0 q1 r0 r1) :
    Calls Try.prog 8 #[.agg #[.int .i64 A, .int .i64 B, .bool P.s, p0, p1, .bool Q.s, q0, q1, .bool R.s, r0, r1]] w fun e w' => e = .returned (.bool (okK A B P Q R)) ∧ Below w.heap.size w w' := by
  have HL := Lib.hid hL
  clear hL
  obtain ⟨g, hg⟩ : ∃ z, P.sgn = z := ⟨_, rfl⟩
  have HG := Lib.hid hg
  clear hg
  have S_1 := Lib.hid (show St w (w.alloc (.cells #[.int .i64 A, .int .i64 B, .bool P.s, p0, p1, .bool Q.s, q0, q1, .bool R.s, r0, r1] 35)) [(w.heap.size, [.int .i64 A, .int .i64 B, .bool P.s, p0, p1, .bool Q.s, q0, q1, .bool R.s, r0, r1])] [] from ((St.start w).alloc_at (b := w.heap.size) [.int .i64 A, .int .i64 B, .bool P.s, p0, p1, .bool Q.s, q0, q1, .bool R.s, r0, r1] 35 (by first | rfl | simp)))
  by_cases h1 : 0 ≤ A ∧ A < 10
  · by_cases h2 : 0 ≤ B ∧ B < 10
    · by_cases h3 : A < B
      · have H1 := Lib.hid h1
        have H2 := Lib.hid h2
        have H3 := Lib.hid h3
        go_enter Try.func8, Try.ntmps8
        go_wp2_with fail
        refine (l06Node_yes A _ H1.out).mono ?_
        rintro e w' ⟨rfl, hw⟩
        subst hw
        go_wp2_with fail
        refine (l06Node_yes B _ H2.out).mono ?_
        rintro e w' ⟨rfl, hw⟩
        subst hw
        go_wp2_with fail
        refine (ratSign_s P p0 p1 _ (S_1.out.lkA HL.out).p).mono ?_
        rintro e w1 ⟨rfl, hb⟩
        have S_2 := Lib.hid (S_1.out.call hb)
        clear S_1
        clear hb
        rw [HG.out]
        by_cases h4 : 0 < g
        · have H4 := Lib.hid h4
          have hk_a_0_2 := S_2.out.cell 0 0 rfl rfl
          have hk_a_1_2 := S_2.out.cell 0 1 rfl rfl
          have hk_a_2_2 := S_2.out.cell 0 2 rfl rfl
          have hk_a_3_2 := S_2.out.cell 0 3 rfl rfl
          have hk_a_4_2 := S_2.out.cell 0 4 rfl rfl
          have hk_a_5_2 := S_2.out.cell 0 5 rfl rfl
          have hk_a_6_2 := S_2.out.cell 0 6 rfl rfl
          have hk_a_7_2 := S_2.out.cell 0 7 rfl rfl
          have hk_a_8_2 := S_2.out.cell 0 8 rfl rfl
          have hk_a_9_2 := S_2.out.cell 0 9 rfl rfl
          have hk_a_10_2 := S_2.out.cell 0 10 rfl rfl
          go_wp2_with fail
          refine (ratOk_s Q q0 q1 _ (S_2.out.lkA HL.out).q).mono ?_
          rintro e w2 ⟨rfl, hb⟩
          have S_3 := Lib.hid (S_2.out.call hb)
          clear S_2
          clear hb
          by_cases h5 : Q.ok = true
          · rw [h5]
            clear hk_a_0_2 hk_a_1_2 hk_a_2_2 hk_a_3_2 hk_a_4_2 hk_a_5_2 hk_a_6_2 hk_a_7_2 hk_a_8_2 hk_a_9_2 hk_a_10_2
            have hk_a_0_3 := S_3.out.cell 0 0 rfl rfl
            have hk_a_1_3 := S_3.out.cell 0 1 rfl rfl
            have hk_a_2_3 := S_3.out.cell 0 2 rfl rfl
            have hk_a_3_3 := S_3.out.cell 0 3 rfl rfl
            have hk_a_4_3 := S_3.out.cell 0 4 rfl rfl
            have hk_a_5_3 := S_3.out.cell 0 5 rfl rfl
            have hk_a_6_3 := S_3.out.cell 0 6 rfl rfl
            have hk_a_7_3 := S_3.out.cell 0 7 rfl rfl
            have hk_a_8_3 := S_3.out.cell 0 8 rfl rfl
            have hk_a_9_3 := S_3.out.cell 0 9 rfl rfl
            have hk_a_10_3 := S_3.out.cell 0 10 rfl rfl
            go_wp2_with fail
            refine (ratOk_s R r0 r1 _ (S_3.out.lkA HL.out).r).mono ?_
            rintro e w3 ⟨rfl, hb⟩
            have S_4 := Lib.hid (S_3.out.call hb)
            clear S_3
            clear hb
            go_wp2
            all_goals go_ret
            all_goals exact ret_b ((by rw [h5]; rfl : R.ok = (Q.ok && R.ok)).trans (okK_5 H1.out H2.out H3.out (by rw [HG.out]; exact H4.out))) S_4.out.below
          · rw [Bool.not_eq_true] at h5
            rw [h5]
            go_wp2
            all_goals go_ret
            all_goals exact ret_b ((by rw [h5]; rfl : false = (Q.ok && R.ok)).trans (okK_5 H1.out H2.out H3.out (by rw [HG.out]; exact H4.out))) S_3.out.below
        · have H4 := Lib.hid h4
          go_wp2
          all_goals go_ret
          all_goals exact ret_b (okK_4 (by rw [HG.out]; have := H4.out; omega)) S_2.out.below
      · have H3 := Lib.hid h3
        go_enter Try.func8, Try.ntmps8
        go_wp2
        all_goals go_ret
        all_goals exact ret_b (okK_3 (by have := H3.out; omega)) S_1.out.below
    · have H2 := Lib.hid h2
      go_enter Try.func8, Try.ntmps8
      go_wp2
      all_goals go_ret
      all_goals exact ret_b (okK_2 H2.out) S_1.out.below
  · have H1 := Lib.hid h1
    go_enter Try.func8, Try.ntmps8
    go_wp2
    all_goals go_ret
    all_goals exact ret_b (okK_1 H1.out) S_1.out.below
/-- May a link be made of these? -/
def okN (a b k x y : Int) : Bool := decide ((0 ≤ a ∧ a < 10) ∧ (0 ≤ b ∧ b < 10) ∧ a ≠ b ∧ (1 ≤ k ∧ k ≤ 9999) ∧ (-1000000 ≤ x ∧ x ≤ 1000000) ∧ (-1000000 ≤ y ∧ y ≤ 1000000))
def nlA (a b k x y : Int) : Int := if okN a b k x y = true then (if b < a then b else a) else 0
def nlB (a b k x y : Int) : Int := if okN a b k x y = true then (if b < a then a else b) else 0
def nlP (a b k x y : Int) : Fr := if okN a b k x y = true then Fr.of k else Fr.zero
def nlQ (a b k x y : Int) : Fr := if okN a b k x y = true then (if b < a then Fr.of (-x) else Fr.of x) else Fr.zero
def nlR (a b k x y : Int) : Fr := if okN a b k x y = true then (if b < a then Fr.of (-y) else Fr.of y) else Fr.zero
theorem nl_no {a b k x y : Int} (h : okN a b k x y = false) : nlA a b k x y = 0 ∧ nlB a b k x y = 0 ∧ nlP a b k x y = Fr.zero ∧ nlQ a b k x y = Fr.zero ∧ nlR a b k x y = Fr.zero := by simp [nlA, nlB, nlP, nlQ, nlR, h]
theorem nl_gt {a b k x y : Int} (h : okN a b k x y = true) (hb : b < a) : nlA a b k x y = b ∧ nlB a b k x y = a ∧ nlP a b k x y = Fr.of k ∧ nlQ a b k x y = Fr.of (-x) ∧ nlR a b k x y = Fr.of (-y) := by simp [nlA, nlB, nlP, nlQ, nlR, h, hb]
theorem nl_le {a b k x y : Int} (h : okN a b k x y = true) (hb : ¬ b < a) : nlA a b k x y = a ∧ nlB a b k x y = b ∧ nlP a b k x y = Fr.of k ∧ nlQ a b k x y = Fr.of x ∧ nlR a b k x y = Fr.of y := by simp [nlA, nlB, nlP, nlQ, nlR, h, hb]
theorem okN_of {a b k x y : Int} (h : (0 ≤ a ∧ a < 10) ∧ (0 ≤ b ∧ b < 10) ∧ a ≠ b ∧ (1 ≤ k ∧ k ≤ 9999) ∧ (-1000000 ≤ x ∧ x ≤ 1000000) ∧ (-1000000 ≤ y ∧ y ≤ 1000000)) : okN a b k x y = true := decide_eq_true h
theorem okN_not {a b k x y : Int} (h : ¬ ((0 ≤ a ∧ a < 10) ∧ (0 ≤ b ∧ b < 10) ∧ a ≠ b ∧ (1 ≤ k ∧ k ≤ 9999) ∧ (-1000000 ≤ x ∧ x ≤ 1000000) ∧ (-1000000 ≤ y ∧ y ≤ 1000000))) : okN a b k x y = false := decide_eq_false h
def rowsP (X Y : Fr) (p0 p1 q0 q1 : Value) : Chunk := [(p0, ints X.xs), (p1, ints X.ys), (q0, ints Y.xs), (q1, ints Y.ys)]
theorem of_len (x : Int) : (Fr.of x).xs.length ≤ 60 ∧ (Fr.of x).ys.length = 1 := ⟨by simp only [Fr.of, up, List.length_map]; exact capd_len _, rfl⟩
theorem nl_len (a b k x y : Int) : ((nlP a b k x y).xs.length ≤ 60 ∧ (nlP a b k x y).ys.length ≤ 1) ∧ ((nlQ a b k x y).xs.length ≤ 60 ∧ (nlQ a b k x y).ys.length ≤ 1) ∧ ((nlR a b k x y).xs.length ≤ 60 ∧ (nlR a b k x y).ys.length ≤ 1) := by
  have h1 := of_len k
  have h2 := of_len x
  have h3 := of_len (-x)
  have h4 := of_len y
  have h5 := of_len (-y)
  have z1 : Fr.zero.xs.length = 0 := rfl
  have z2 : Fr.zero.ys.length = 0 := rfl
  unfold nlP nlQ nlR
  refine ⟨?_, ?_, ?_⟩ <;> (repeat' split) <;> omega
set_option maxRecDepth 100000 in
set_option maxHeartbeats 4000000 in
theorem newLink_i (a b k x y : Int) (w : World) :
    Calls Try.prog 13 #[.int .i64 a, .int .i64 b, .int .i64 k, .int .i64 x, .int .i64 y] w (OwnKB (nlA a b k x y) (nlB a b k x y) (nlP a b k x y) (nlQ a b k x y) (nlR a b k x y) (okN a b k x y) w) := by
  by_cases h1 : 0 ≤ a ∧ a < 10
  · by_cases h2 : 0 ≤ b ∧ b < 10
    · by_cases h3 : ¬ a = b
      · by_cases h4 : 1 ≤ k
        · by_cases h5 : k ≤ 9999
          · by_cases h6a : -1000000 ≤ x
            · by_cases h6b : x ≤ 1000000
              · by_cases h7a : -1000000 ≤ y
                · by_cases h7b : y ≤ 1000000
                  · have h6 := And.intro h6a h6b
                    have h7 := And.intro h7a h7b
                    have HK := Lib.hid (okN_of (a := a) (b := b) (k := k) (x := x) (y := y) ⟨h1, h2, h3, ⟨h4, h5⟩, h6, h7⟩)
                    have H1 := Lib.hid h1
                    have H2 := Lib.hid h2
                    have H4 := Lib.hid (show 1 ≤ k ∧ k ≤ 9999 from ⟨h4, h5⟩)
                    have H6 := Lib.hid h6
                    have H7 := Lib.hid h7
                    have f1 : (a == b) = false := by simp [h3]
                    have f2 : decide (k < 1) = false := by simp; omega
                    have f3 : decide (9999 < k) = false := by simp; omega
                    by_cases hc : b < a
                    · obtain ⟨e1, e2, e3, e4, e5⟩ := nl_gt HK.out hc
                      rw [e1, e2, e3, e4, e5, HK.out]
                      clear e1 e2 e3 e4 e5
                      have S_1 := Lib.hid (show St w (w.alloc (.cells #[.int .i64 0, .int .i64 0, .bool false, .slice none 0 0, .slice none 0 0, .bool false, .slice none 0 0, .slice none 0 0, .bool false, .slice none 0 0, .slice none 0 0] 35)) [(w.heap.size, [.int .i64 0, .int .i64 0, .bool false, .slice none 0 0, .slice none 0 0, .bool false, .slice none 0 0, .slice none 0 0, .bool false, .slice none 0 0, .slice none 0 0])] [] from ((St.start w).alloc_at (b := w.heap.size) [.int .i64 0, .int .i64 0, .bool false, .slice none 0 0, .slice none 0 0, .bool false, .slice none 0 0, .slice none 0 0, .bool false, .slice none 0 0, .slice none 0 0] 35 (by first | rfl | simp)))
                      go_enter Try.func13, Try.ntmps13
                      go_wp2_with fail
                      refine (isNode_yes a _ H1.out).mono ?_
                      rintro e w' ⟨rfl, hw⟩
                      subst hw
                      go_wp2_with fail
                      refine (isNode_yes b _ H2.out).mono ?_
                      rintro e w' ⟨rfl, hw⟩
                      subst hw
                      go_wp2_with fail
                      refine (isCoord_yes x _ H6.out).mono ?_
                      rintro e w' ⟨rfl, hw⟩
                      subst hw
                      go_wp2_with fail
                      refine (isCoord_yes y _ H7.out).mono ?_
                      rintro e w' ⟨rfl, hw⟩
                      subst hw
                      go_wp2_with fail
                      refine (ratFromInt_i (k) _ (by omega)).mono ?_
                      rintro e w1 ⟨v1, u1, rfl, ho, hb⟩
                      obtain ⟨A1, n1, c1, rfl⟩ := (ho.at_ 0 rfl).shape3
                      obtain ⟨B1, m1, d1, rfl⟩ := (ho.at_ 1 rfl).shape3
                      have S_2 := Lib.hid (S_1.out.rows ho hb)
                      clear S_1
                      clear ho hb
                      go_wp2_with fail
                      refine (ratFromInt_i (-x) _ (by omega)).mono ?_
                      rintro e w2 ⟨v2, u2, rfl, ho, hb⟩
                      obtain ⟨A2, n2, c2, rfl⟩ := (ho.at_ 0 rfl).shape3
                      obtain ⟨B2, m2, d2, rfl⟩ := (ho.at_ 1 rfl).shape3
                      have S_3 := Lib.hid (S_2.out.rows ho hb)
                      clear S_2
                      clear ho hb
                      go_wp2_with fail
                      refine (ratFromInt_i (-y) _ (by omega)).mono ?_
                      rintro e w3 ⟨v3, u3, rfl, ho, hb⟩
                      obtain ⟨A3, n3, c3, rfl⟩ := (ho.at_ 0 rfl).shape3
                      obtain ⟨B3, m3, d3, rfl⟩ := (ho.at_ 1 rfl).shape3
                      have S_4 := Lib.hid (S_3.out.rows ho hb)
                      clear S_3
                      clear ho hb
                      have hk_res_0_4 := S_4.out.cell 0 0 rfl rfl
                      have hk_res_0_4f := S_4.out.froz 0 0 rfl rfl
                      have hk_res_1_4 := S_4.out.cell 0 1 rfl rfl
                      have hk_res_1_4f := S_4.out.froz 0 1 rfl rfl
                      have hk_res_2_4 := S_4.out.cell 0 2 rfl rfl
                      have hk_res_2_4f := S_4.out.froz 0 2 rfl rfl
                      have hk_res_3_4 := S_4.out.cell 0 3 rfl rfl
                      have hk_res_3_4f := S_4.out.froz 0 3 rfl rfl
                      have hk_res_4_4 := S_4.out.cell 0 4 rfl rfl
                      have hk_res_4_4f := S_4.out.froz 0 4 rfl rfl
                      have hk_res_5_4 := S_4.out.cell 0 5 rfl rfl
                      have hk_res_5_4f := S_4.out.froz 0 5 rfl rfl
                      have hk_res_6_4 := S_4.out.cell 0 6 rfl rfl
                      have hk_res_6_4f := S_4.out.froz 0 6 rfl rfl
                      have hk_res_7_4 := S_4.out.cell 0 7 rfl rfl
                      have hk_res_7_4f := S_4.out.froz 0 7 rfl rfl
                      have hk_res_8_4 := S_4.out.cell 0 8 rfl rfl
                      have hk_res_8_4f := S_4.out.froz 0 8 rfl rfl
                      have hk_res_9_4 := S_4.out.cell 0 9 rfl rfl
                      have hk_res_9_4f := S_4.out.froz 0 9 rfl rfl
                      have hk_res_10_4 := S_4.out.cell 0 10 rfl rfl
                      have hk_res_10_4f := S_4.out.froz 0 10 rfl rfl
                      go_wp2
                      have SR := Lib.hid (((((((((((S_4.out.set 0 0 (.int .i64 (b)) rfl rfl).set 0 1 (.int .i64 (a)) rfl rfl).set 0 2 (.bool (Fr.of k).s) rfl rfl).set 0 3 ((.slice A1 n1 c1)) rfl rfl).set 0 4 ((.slice B1 m1 d1)) rfl rfl).set 0 5 (.bool (Fr.of (-x)).s) rfl rfl).set 0 6 ((.slice A2 n2 c2)) rfl rfl).set 0 7 ((.slice B2 m2 d2)) rfl rfl).set 0 8 (.bool (Fr.of (-y)).s) rfl rfl).set 0 9 ((.slice A3 n3 c3)) rfl rfl).set 0 10 ((.slice B3 m3 d3)) rfl rfl)
                      have hr0 := S_4.out.cell 0 0 rfl rfl
                      have hr1 := S_4.out.cell 0 1 rfl rfl
                      have hr2 := S_4.out.cell 0 2 rfl rfl
                      have hr3 := S_4.out.cell 0 3 rfl rfl
                      have hr4 := S_4.out.cell 0 4 rfl rfl
                      have hr5 := S_4.out.cell 0 5 rfl rfl
                      have hr6 := S_4.out.cell 0 6 rfl rfl
                      have hr7 := S_4.out.cell 0 7 rfl rfl
                      have hr8 := S_4.out.cell 0 8 rfl rfl
                      have hr9 := S_4.out.cell 0 9 rfl rfl
                      have hr10 := S_4.out.cell 0 10 rfl rfl
                      exact bodyPost_ret (v := .tuple #[.agg #[.int .i64 (b), .int .i64 (a), .bool (Fr.of k).s, (.slice A1 n1 c1), (.slice B1 m1 d1), .bool (Fr.of (-x)).s, (.slice A2 n2 c2), (.slice B2 m2 d2), .bool (Fr.of (-y)).s, (.slice A3 n3 c3), (.slice B3 m3 d3)], .bool true]) (by simp [results, Try.results13, go_sem, hr0, hr1, hr2, hr3, hr4, hr5, hr6, hr7, hr8, hr9, hr10]) rfl ⟨_, _, _, _, _, _, rfl, SR.out.pick [2, 1, 0] [[((.slice A1 n1 c1), ints (Fr.of k).xs), ((.slice B1 m1 d1), ints (Fr.of k).ys)], [((.slice A2 n2 c2), ints (Fr.of (-x)).xs), ((.slice B2 m2 d2), ints (Fr.of (-x)).ys)], [((.slice A3 n3 c3), ints (Fr.of (-y)).xs), ((.slice B3 m3 d3), ints (Fr.of (-y)).ys)]] (by decide) rfl, SR.out.below⟩
                    · obtain ⟨e1, e2, e3, e4, e5⟩ := nl_le HK.out hc
                      rw [e1, e2, e3, e4, e5, HK.out]
                      clear e1 e2 e3 e4 e5
                      have S_5 := Lib.hid (show St w (w.alloc (.cells #[.int .i64 0, .int .i64 0, .bool false, .slice none 0 0, .slice none 0 0, .bool false, .slice none 0 0, .slice none 0 0, .bool false, .slice none 0 0, .slice none 0 0] 35)) [(w.heap.size, [.int .i64 0, .int .i64 0, .bool false, .slice none 0 0, .slice none 0 0, .bool false, .slice none 0 0, .slice none 0 0, .bool false, .slice none 0 0, .slice none 0 0])] [] from ((St.start w).alloc_at (b := w.heap.size) [.int .i64 0, .int .i64 0, .bool false, .slice none 0 0, .slice none 0 0, .bool false, .slice none 0 0, .slice none 0 0, .bool false, .slice none 0 0, .slice none 0 0] 35 (by first | rfl | simp)))
                      go_enter Try.func13, Try.ntmps13
                      go_wp2_with fail
                      refine (isNode_yes a _ H1.out).mono ?_
                      rintro e w' ⟨rfl, hw⟩
                      subst hw
                      go_wp2_with fail
                      refine (isNode_yes b _ H2.out).mono ?_
                      rintro e w' ⟨rfl, hw⟩
                      subst hw
                      go_wp2_with fail
                      refine (isCoord_yes x _ H6.out).mono ?_
                      rintro e w' ⟨rfl, hw⟩
                      subst hw
                      go_wp2_with fail
                      refine (isCoord_yes y _ H7.out).mono ?_
                      rintro e w' ⟨rfl, hw⟩
                      subst hw
                      go_wp2_with fail
                      refine (ratFromInt_i (k) _ (by omega)).mono ?_
                      rintro e w1 ⟨v1, u1, rfl, ho, hb⟩
                      obtain ⟨A1, n1, c1, rfl⟩ := (ho.at_ 0 rfl).shape3
                      obtain ⟨B1, m1, d1, rfl⟩ := (ho.at_ 1 rfl).shape3
                      have S_6 := Lib.hid (S_5.out.rows ho hb)
                      clear S_5
                      clear ho hb
                      go_wp2_with fail
                      refine (ratFromInt_i (x) _ (by omega)).mono ?_
                      rintro e w2 ⟨v2, u2, rfl, ho, hb⟩
                      obtain ⟨A2, n2, c2, rfl⟩ := (ho.at_ 0 rfl).shape3
                      obtain ⟨B2, m2, d2, rfl⟩ := (ho.at_ 1 rfl).shape3
                      have S_7 := Lib.hid (S_6.out.rows ho hb)
                      clear S_6
                      clear ho hb
                      go_wp2_with fail
                      refine (ratFromInt_i (y) _ (by omega)).mono ?_
                      rintro e w3 ⟨v3, u3, rfl, ho, hb⟩
                      obtain ⟨A3, n3, c3, rfl⟩ := (ho.at_ 0 rfl).shape3
                      obtain ⟨B3, m3, d3, rfl⟩ := (ho.at_ 1 rfl).shape3
                      have S_8 := Lib.hid (S_7.out.rows ho hb)
                      clear S_7
                      clear ho hb
                      have hk_res_0_8 := S_8.out.cell 0 0 rfl rfl
                      have hk_res_0_8f := S_8.out.froz 0 0 rfl rfl
                      have hk_res_1_8 := S_8.out.cell 0 1 rfl rfl
                      have hk_res_1_8f := S_8.out.froz 0 1 rfl rfl
                      have hk_res_2_8 := S_8.out.cell 0 2 rfl rfl
                      have hk_res_2_8f := S_8.out.froz 0 2 rfl rfl
                      have hk_res_3_8 := S_8.out.cell 0 3 rfl rfl
                      have hk_res_3_8f := S_8.out.froz 0 3 rfl rfl
                      have hk_res_4_8 := S_8.out.cell 0 4 rfl rfl
                      have hk_res_4_8f := S_8.out.froz 0 4 rfl rfl
                      have hk_res_5_8 := S_8.out.cell 0 5 rfl rfl
                      have hk_res_5_8f := S_8.out.froz 0 5 rfl rfl
                      have hk_res_6_8 := S_8.out.cell 0 6 rfl rfl
                      have hk_res_6_8f := S_8.out.froz 0 6 rfl rfl
                      have hk_res_7_8 := S_8.out.cell 0 7 rfl rfl
                      have hk_res_7_8f := S_8.out.froz 0 7 rfl rfl
                      have hk_res_8_8 := S_8.out.cell 0 8 rfl rfl
                      have hk_res_8_8f := S_8.out.froz 0 8 rfl rfl
                      have hk_res_9_8 := S_8.out.cell 0 9 rfl rfl
                      have hk_res_9_8f := S_8.out.froz 0 9 rfl rfl
                      have hk_res_10_8 := S_8.out.cell 0 10 rfl rfl
                      have hk_res_10_8f := S_8.out.froz 0 10 rfl rfl
                      go_wp2
                      have SR := Lib.hid (((((((((((S_8.out.set 0 0 (.int .i64 (a)) rfl rfl).set 0 1 (.int .i64 (b)) rfl rfl).set 0 2 (.bool (Fr.of k).s) rfl rfl).set 0 3 ((.slice A1 n1 c1)) rfl rfl).set 0 4 ((.slice B1 m1 d1)) rfl rfl).set 0 5 (.bool (Fr.of (x)).s) rfl rfl).set 0 6 ((.slice A2 n2 c2)) rfl rfl).set 0 7 ((.slice B2 m2 d2)) rfl rfl).set 0 8 (.bool (Fr.of (y)).s) rfl rfl).set 0 9 ((.slice A3 n3 c3)) rfl rfl).set 0 10 ((.slice B3 m3 d3)) rfl rfl)
                      have hr0 := S_8.out.cell 0 0 rfl rfl
                      have hr1 := S_8.out.cell 0 1 rfl rfl
                      have hr2 := S_8.out.cell 0 2 rfl rfl
                      have hr3 := S_8.out.cell 0 3 rfl rfl
                      have hr4 := S_8.out.cell 0 4 rfl rfl
                      have hr5 := S_8.out.cell 0 5 rfl rfl
                      have hr6 := S_8.out.cell 0 6 rfl rfl
                      have hr7 := S_8.out.cell 0 7 rfl rfl
                      have hr8 := S_8.out.cell 0 8 rfl rfl
                      have hr9 := S_8.out.cell 0 9 rfl rfl
                      have hr10 := S_8.out.cell 0 10 rfl rfl
                      exact bodyPost_ret (v := .tuple #[.agg #[.int .i64 (a), .int .i64 (b), .bool (Fr.of k).s, (.slice A1 n1 c1), (.slice B1 m1 d1), .bool (Fr.of (x)).s, (.slice A2 n2 c2), (.slice B2 m2 d2), .bool (Fr.of (y)).s, (.slice A3 n3 c3), (.slice B3 m3 d3)], .bool true]) (by simp [results, Try.results13, go_sem, hr0, hr1, hr2, hr3, hr4, hr5, hr6, hr7, hr8, hr9, hr10]) rfl ⟨_, _, _, _, _, _, rfl, SR.out.pick [2, 1, 0] [[((.slice A1 n1 c1), ints (Fr.of k).xs), ((.slice B1 m1 d1), ints (Fr.of k).ys)], [((.slice A2 n2 c2), ints (Fr.of (x)).xs), ((.slice B2 m2 d2), ints (Fr.of (x)).ys)], [((.slice A3 n3 c3), ints (Fr.of (y)).xs), ((.slice B3 m3 d3), ints (Fr.of (y)).ys)]] (by decide) rfl, SR.out.below⟩
                  · have g9 : decide (y ≤ 1000000) = false := decide_eq_false h7b
                    have f1 : (a == b) = false := by simp [h3]
                    have f2 : decide (k < 1) = false := by simp; omega
                    have f3 : decide (9999 < k) = false := by simp; omega
                    have HK := okN_not (a := a) (b := b) (k := k) (x := x) (y := y) (by omega)
                    obtain ⟨e1, e2, e3, e4, e5⟩ := nl_no HK
                    rw [e1, e2, e3, e4, e5, HK]
                    clear e1 e2 e3 e4 e5 HK
                    have S_9 := Lib.hid (show St w (w.alloc (.cells #[.int .i64 0, .int .i64 0, .bool false, .slice none 0 0, .slice none 0 0, .bool false, .slice none 0 0, .slice none 0 0, .bool false, .slice none 0 0, .slice none 0 0] 35)) [(w.heap.size, [.int .i64 0, .int .i64 0, .bool false, .slice none 0 0, .slice none 0 0, .bool false, .slice none 0 0, .slice none 0 0, .bool false, .slice none 0 0, .slice none 0 0])] [] from ((St.start w).alloc_at (b := w.heap.size) [.int .i64 0, .int .i64 0, .bool false, .slice none 0 0, .slice none 0 0, .bool false, .slice none 0 0, .slice none 0 0, .bool false, .slice none 0 0, .slice none 0 0] 35 (by first | rfl | simp)))
                    go_enter Try.func13, Try.ntmps13
                    go_wp2
                    all_goals exact bodyPost_ret (v := .tuple #[.agg #[.int .i64 0, .int .i64 0, .bool false, .slice none 0 0, .slice none 0 0, .bool false, .slice none 0 0, .slice none 0 0, .bool false, .slice none 0 0, .slice none 0 0], .bool false]) (by simp [results, Try.results13, go_sem]) rfl ⟨_, _, _, _, _, _, rfl, Owns.nils _ _ 6, S_9.out.below⟩
                · have g9 : decide (-1000000 ≤ y) = false := decide_eq_false h7a
                  have f1 : (a == b) = false := by simp [h3]
                  have f2 : decide (k < 1) = false := by simp; omega
                  have f3 : decide (9999 < k) = false := by simp; omega
                  have HK := okN_not (a := a) (b := b) (k := k) (x := x) (y := y) (by omega)
                  obtain ⟨e1, e2, e3, e4, e5⟩ := nl_no HK
                  rw [e1, e2, e3, e4, e5, HK]
                  clear e1 e2 e3 e4 e5 HK
                  have S_10 := Lib.hid (show St w (w.alloc (.cells #[.int .i64 0, .int .i64 0, .bool false, .slice none 0 0, .slice none 0 0, .bool false, .slice none 0 0, .slice none 0 0, .bool false, .slice none 0 0, .slice none 0 0] 35)) [(w.heap.size, [.int .i64 0, .int .i64 0, .bool false, .slice none 0 0, .slice none 0 0, .bool false, .slice none 0 0, .slice none 0 0, .bool false, .slice none 0 0, .slice none 0 0])] [] from ((St.start w).alloc_at (b := w.heap.size) [.int .i64 0, .int .i64 0, .bool false, .slice none 0 0, .slice none 0 0, .bool false, .slice none 0 0, .slice none 0 0, .bool false, .slice none 0 0, .slice none 0 0] 35 (by first | rfl | simp)))
                  go_enter Try.func13, Try.ntmps13
                  go_wp2
                  all_goals exact bodyPost_ret (v := .tuple #[.agg #[.int .i64 0, .int .i64 0, .bool false, .slice none 0 0, .slice none 0 0, .bool false, .slice none 0 0, .slice none 0 0, .bool false, .slice none 0 0, .slice none 0 0], .bool false]) (by simp [results, Try.results13, go_sem]) rfl ⟨_, _, _, _, _, _, rfl, Owns.nils _ _ 6, S_10.out.below⟩
              · have g9 : decide (x ≤ 1000000) = false := decide_eq_false h6b
                have f1 : (a == b) = false := by simp [h3]
                have f2 : decide (k < 1) = false := by simp; omega
                have f3 : decide (9999 < k) = false := by simp; omega
                have HK := okN_not (a := a) (b := b) (k := k) (x := x) (y := y) (by omega)
                obtain ⟨e1, e2, e3, e4, e5⟩ := nl_no HK
                rw [e1, e2, e3, e4, e5, HK]
                clear e1 e2 e3 e4 e5 HK
                have S_11 := Lib.hid (show St w (w.alloc (.cells #[.int .i64 0, .int .i64 0, .bool false, .slice none 0 0, .slice none 0 0, .bool false, .slice none 0 0, .slice none 0 0, .bool false, .slice none 0 0, .slice none 0 0] 35)) [(w.heap.size, [.int .i64 0, .int .i64 0, .bool false, .slice none 0 0, .slice none 0 0, .bool false, .slice none 0 0, .slice none 0 0, .bool false, .slice none 0 0, .slice none 0 0])] [] from ((St.start w).alloc_at (b := w.heap.size) [.int .i64 0, .int .i64 0, .bool false, .slice none 0 0, .slice none 0 0, .bool false, .slice none 0 0, .slice none 0 0, .bool false, .slice none 0 0, .slice none 0 0] 35 (by first | rfl | simp)))
                go_enter Try.func13, Try.ntmps13
                go_wp2
                all_goals exact bodyPost_ret (v := .tuple #[.agg #[.int .i64 0, .int .i64 0, .bool false, .slice none 0 0, .slice none 0 0, .bool false, .slice none 0 0, .slice none 0 0, .bool false, .slice none 0 0, .slice none 0 0], .bool false]) (by simp [results, Try.results13, go_sem]) rfl ⟨_, _, _, _, _, _, rfl, Owns.nils _ _ 6, S_11.out.below⟩
            · have g9 : decide (-1000000 ≤ x) = false := decide_eq_false h6a
              have f1 : (a == b) = false := by simp [h3]
              have f2 : decide (k < 1) = false := by simp; omega
              have f3 : decide (9999 < k) = false := by simp; omega
              have HK := okN_not (a := a) (b := b) (k := k) (x := x) (y := y) (by omega)
              obtain ⟨e1, e2, e3, e4, e5⟩ := nl_no HK
              rw [e1, e2, e3, e4, e5, HK]
              clear e1 e2 e3 e4 e5 HK
              have S_12 := Lib.hid (show St w (w.alloc (.cells #[.int .i64 0, .int .i64 0, .bool false, .slice none 0 0, .slice none 0 0, .bool false, .slice none 0 0, .slice none 0 0, .bool false, .slice none 0 0, .slice none 0 0] 35)) [(w.heap.size, [.int .i64 0, .int .i64 0, .bool false, .slice none 0 0, .slice none 0 0, .bool false, .slice none 0 0, .slice none 0 0, .bool false, .slice none 0 0, .slice none 0 0])] [] from ((St.start w).alloc_at (b := w.heap.size) [.int .i64 0, .int .i64 0, .bool false, .slice none 0 0, .slice none 0 0, .bool false, .slice none 0 0, .slice none 0 0, .bool false, .slice none 0 0, .slice none 0 0] 35 (by first | rfl | simp)))
              go_enter Try.func13, Try.ntmps13
              go_wp2
              all_goals exact bodyPost_ret (v := .tuple #[.agg #[.int .i64 0, .int .i64 0, .bool false, .slice none 0 0, .slice none 0 0, .bool false, .slice none 0 0, .slice none 0 0, .bool false, .slice none 0 0, .slice none 0 0], .bool false]) (by simp [results, Try.results13, go_sem]) rfl ⟨_, _, _, _, _, _, rfl, Owns.nils _ _ 6, S_12.out.below⟩
          · have f1 : (a == b) = false := by simp [h3]
            have f2 : decide (k < 1) = false := by simp; omega
            have HK := okN_not (a := a) (b := b) (k := k) (x := x) (y := y) (by omega)
            obtain ⟨e1, e2, e3, e4, e5⟩ := nl_no HK
            rw [e1, e2, e3, e4, e5, HK]
            clear e1 e2 e3 e4 e5 HK
            have S_13 := Lib.hid (show St w (w.alloc (.cells #[.int .i64 0, .int .i64 0, .bool false, .slice none 0 0, .slice none 0 0, .bool false, .slice none 0 0, .slice none 0 0, .bool false, .slice none 0 0, .slice none 0 0] 35)) [(w.heap.size, [.int .i64 0, .int .i64 0, .bool false, .slice none 0 0, .slice none 0 0, .bool false, .slice none 0 0, .slice none 0 0, .bool false, .slice none 0 0, .slice none 0 0])] [] from ((St.start w).alloc_at (b := w.heap.size) [.int .i64 0, .int .i64 0, .bool false, .slice none 0 0, .slice none 0 0, .bool false, .slice none 0 0, .slice none 0 0, .bool false, .slice none 0 0, .slice none 0 0] 35 (by first | rfl | simp)))
            go_enter Try.func13, Try.ntmps13
            go_wp2
            all_goals exact bodyPost_ret (v := .tuple #[.agg #[.int .i64 0, .int .i64 0, .bool false, .slice none 0 0, .slice none 0 0, .bool false, .slice none 0 0, .slice none 0 0, .bool false, .slice none 0 0, .slice none 0 0], .bool false]) (by simp [results, Try.results13, go_sem]) rfl ⟨_, _, _, _, _, _, rfl, Owns.nils _ _ 6, S_13.out.below⟩
        · have f1 : (a == b) = false := by simp [h3]
          have HK := okN_not (a := a) (b := b) (k := k) (x := x) (y := y) (by omega)
          obtain ⟨e1, e2, e3, e4, e5⟩ := nl_no HK
          rw [e1, e2, e3, e4, e5, HK]
          clear e1 e2 e3 e4 e5 HK
          have S_14 := Lib.hid (show St w (w.alloc (.cells #[.int .i64 0, .int .i64 0, .bool false, .slice none 0 0, .slice none 0 0, .bool false, .slice none 0 0, .slice none 0 0, .bool false, .slice none 0 0, .slice none 0 0] 35)) [(w.heap.size, [.int .i64 0, .int .i64 0, .bool false, .slice none 0 0, .slice none 0 0, .bool false, .slice none 0 0, .slice none 0 0, .bool false, .slice none 0 0, .slice none 0 0])] [] from ((St.start w).alloc_at (b := w.heap.size) [.int .i64 0, .int .i64 0, .bool false, .slice none 0 0, .slice none 0 0, .bool false, .slice none 0 0, .slice none 0 0, .bool false, .slice none 0 0, .slice none 0 0] 35 (by first | rfl | simp)))
          go_enter Try.func13, Try.ntmps13
          go_wp2
          all_goals exact bodyPost_ret (v := .tuple #[.agg #[.int .i64 0, .int .i64 0, .bool false, .slice none 0 0, .slice none 0 0, .bool false, .slice none 0 0, .slice none 0 0, .bool false, .slice none 0 0, .slice none 0 0], .bool false]) (by simp [results, Try.results13, go_sem]) rfl ⟨_, _, _, _, _, _, rfl, Owns.nils _ _ 6, S_14.out.below⟩
      · have HK := okN_not (a := a) (b := b) (k := k) (x := x) (y := y) (by omega)
        obtain ⟨e1, e2, e3, e4, e5⟩ := nl_no HK
        rw [e1, e2, e3, e4, e5, HK]
        clear e1 e2 e3 e4 e5 HK
        have S_15 := Lib.hid (show St w (w.alloc (.cells #[.int .i64 0, .int .i64 0, .bool false, .slice none 0 0, .slice none 0 0, .bool false, .slice none 0 0, .slice none 0 0, .bool false, .slice none 0 0, .slice none 0 0] 35)) [(w.heap.size, [.int .i64 0, .int .i64 0, .bool false, .slice none 0 0, .slice none 0 0, .bool false, .slice none 0 0, .slice none 0 0, .bool false, .slice none 0 0, .slice none 0 0])] [] from ((St.start w).alloc_at (b := w.heap.size) [.int .i64 0, .int .i64 0, .bool false, .slice none 0 0, .slice none 0 0, .bool false, .slice none 0 0, .slice none 0 0, .bool false, .slice none 0 0, .slice none 0 0] 35 (by first | rfl | simp)))
        go_enter Try.func13, Try.ntmps13
        go_wp2
        all_goals exact bodyPost_ret (v := .tuple #[.agg #[.int .i64 0, .int .i64 0, .bool false, .slice none 0 0, .slice none 0 0, .bool false, .slice none 0 0, .slice none 0 0, .bool false, .slice none 0 0, .slice none 0 0], .bool false]) (by simp [results, Try.results13, go_sem]) rfl ⟨_, _, _, _, _, _, rfl, Owns.nils _ _ 6, S_15.out.below⟩
    · have HK := okN_not (a := a) (b := b) (k := k) (x := x) (y := y) (by omega)
      obtain ⟨e1, e2, e3, e4, e5⟩ := nl_no HK
      rw [e1, e2, e3, e4, e5, HK]
      clear e1 e2 e3 e4 e5 HK
      have S_16 := Lib.hid (show St w (w.alloc (.cells #[.int .i64 0, .int .i64 0, .bool false, .slice none 0 0, .slice none 0 0, .bool false, .slice none 0 0, .slice none 0 0, .bool false, .slice none 0 0, .slice none 0 0] 35)) [(w.heap.size, [.int .i64 0, .int .i64 0, .bool false, .slice none 0 0, .slice none 0 0, .bool false, .slice none 0 0, .slice none 0 0, .bool false, .slice none 0 0, .slice none 0 0])] [] from ((St.start w).alloc_at (b := w.heap.size) [.int .i64 0, .int .i64 0, .bool false, .slice none 0 0, .slice none 0 0, .bool false, .slice none 0 0, .slice none 0 0, .bool false, .slice none 0 0, .slice none 0 0] 35 (by first | rfl | simp)))
      go_enter Try.func13, Try.ntmps13
      go_wp2
      all_goals exact bodyPost_ret (v := .tuple #[.agg #[.int .i64 0, .int .i64 0, .bool false, .slice none 0 0, .slice none 0 0, .bool false, .slice none 0 0, .slice none 0 0, .bool false, .slice none 0 0, .slice none 0 0], .bool false]) (by simp [results, Try.results13, go_sem]) rfl ⟨_, _, _, _, _, _, rfl, Owns.nils _ _ 6, S_16.out.below⟩
  · have HK := okN_not (a := a) (b := b) (k := k) (x := x) (y := y) (by omega)
    obtain ⟨e1, e2, e3, e4, e5⟩ := nl_no HK
    rw [e1, e2, e3, e4, e5, HK]
    clear e1 e2 e3 e4 e5 HK
    have S_17 := Lib.hid (show St w (w.alloc (.cells #[.int .i64 0, .int .i64 0, .bool false, .slice none 0 0, .slice none 0 0, .bool false, .slice none 0 0, .slice none 0 0, .bool false, .slice none 0 0, .slice none 0 0] 35)) [(w.heap.size, [.int .i64 0, .int .i64 0, .bool false, .slice none 0 0, .slice none 0 0, .bool false, .slice none 0 0, .slice none 0 0, .bool false, .slice none 0 0, .slice none 0 0])] [] from ((St.start w).alloc_at (b := w.heap.size) [.int .i64 0, .int .i64 0, .bool false, .slice none 0 0, .slice none 0 0, .bool false, .slice none 0 0, .slice none 0 0, .bool false, .slice none 0 0, .slice none 0 0] 35 (by first | rfl | simp)))
    go_enter Try.func13, Try.ntmps13
    go_wp2
    all_goals exact bodyPost_ret (v := .tuple #[.agg #[.int .i64 0, .int .i64 0, .bool false, .slice none 0 0, .slice none 0 0, .bool false, .slice none 0 0, .slice none 0 0, .bool false, .slice none 0 0, .slice none 0 0], .bool false]) (by simp [results, Try.results13, go_sem]) rfl ⟨_, _, _, _, _, _, rfl, Owns.nils _ _ 6, S_17.out.below⟩
set_option maxRecDepth 100000 in
set_option maxHeartbeats 4000000 in
theorem newLink_s (a b k x y : Int) (w : World) :
    Calls Try.prog 12 #[.int .i64 a, .int .i64 b, .int .i64 k, .int .i64 x, .int .i64 y] w (OwnKB (nlA a b k x y) (nlB a b k x y) (nlP a b k x y) (nlQ a b k x y) (nlR a b k x y) (okN a b k x y) w) := by
  by_cases h1 : 0 ≤ a ∧ a < 10
  · by_cases h2 : 0 ≤ b ∧ b < 10
    · by_cases h3 : ¬ a = b
      · by_cases h4 : 1 ≤ k
        · by_cases h5 : k ≤ 9999
          · by_cases h6a : -1000000 ≤ x
            · by_cases h6b : x ≤ 1000000
              · by_cases h7a : -1000000 ≤ y
                · by_cases h7b : y ≤ 1000000
                  · have h6 := And.intro h6a h6b
                    have h7 := And.intro h7a h7b
                    have HK := Lib.hid (okN_of (a := a) (b := b) (k := k) (x := x) (y := y) ⟨h1, h2, h3, ⟨h4, h5⟩, h6, h7⟩)
                    have H1 := Lib.hid h1
                    have H2 := Lib.hid h2
                    have H4 := Lib.hid (show 1 ≤ k ∧ k ≤ 9999 from ⟨h4, h5⟩)
                    have H6 := Lib.hid h6
                    have H7 := Lib.hid h7
                    have f1 : (a == b) = false := by simp [h3]
                    have f2 : decide (k < 1) = false := by simp; omega
                    have f3 : decide (9999 < k) = false := by simp; omega
                    by_cases hc : b < a
                    · obtain ⟨e1, e2, e3, e4, e5⟩ := nl_gt HK.out hc
                      rw [e1, e2, e3, e4, e5, HK.out]
                      clear e1 e2 e3 e4 e5
                      have S_1 := Lib.hid (show St w (w.alloc (.cells #[.int .i64 0, .int .i64 0, .bool false, .slice none 0 0, .slice none 0 0, .bool false, .slice none 0 0, .slice none 0 0, .bool false, .slice none 0 0, .slice none 0 0] 35)) [(w.heap.size, [.int .i64 0, .int .i64 0, .bool false, .slice none 0 0, .slice none 0 0, .bool false, .slice none 0 0, .slice none 0 0, .bool false, .slice none 0 0, .slice none 0 0])] [] from ((St.start w).alloc_at (b := w.heap.size) [.int .i64 0, .int .i64 0, .bool false, .slice none 0 0, .slice none 0 0, .bool false, .slice none 0 0, .slice none 0 0, .bool false, .slice none 0 0, .slice none 0 0] 35 (by first | rfl | simp)))
                      go_enter Try.func12, Try.ntmps12
                      go_wp2_with fail
                      refine (l06Node_yes a _ H1.out).mono ?_
                      rintro e w' ⟨rfl, hw⟩
                      subst hw
                      go_wp2_with fail
                      refine (l06Node_yes b _ H2.out).mono ?_
                      rintro e w' ⟨rfl, hw⟩
                      subst hw
                      go_wp2_with fail
                      refine (l01In_yes k 1 9999 _ H4.out.1 H4.out.2).mono ?_
                      rintro e w' ⟨rfl, hw⟩
                      subst hw
                      go_wp2_with fail
                      refine (l01In_yes x (-1000000) 1000000 _ H6.out.1 H6.out.2).mono ?_
                      rintro e w' ⟨rfl, hw⟩
                      subst hw
                      go_wp2_with fail
                      refine (l01In_yes y (-1000000) 1000000 _ H7.out.1 H7.out.2).mono ?_
                      rintro e w' ⟨rfl, hw⟩
                      subst hw
                      go_wp2_with fail
                      refine (ratFromInt_s (k) _ (by omega)).mono ?_
                      rintro e w1 ⟨v1, u1, rfl, ho, hb⟩
                      obtain ⟨A1, n1, c1, rfl⟩ := (ho.at_ 0 rfl).shape3
                      obtain ⟨B1, m1, d1, rfl⟩ := (ho.at_ 1 rfl).shape3
                      have S_2 := Lib.hid (S_1.out.rows ho hb)
                      clear S_1
                      clear ho hb
                      go_wp2_with fail
                      refine (ratFromInt_s (-x) _ (by omega)).mono ?_
                      rintro e w2 ⟨v2, u2, rfl, ho, hb⟩
                      obtain ⟨A2, n2, c2, rfl⟩ := (ho.at_ 0 rfl).shape3
                      obtain ⟨B2, m2, d2, rfl⟩ := (ho.at_ 1 rfl).shape3
                      have S_3 := Lib.hid (S_2.out.rows ho hb)
                      clear S_2
                      clear ho hb
                      go_wp2_with fail
                      refine (ratFromInt_s (-y) _ (by omega)).mono ?_
                      rintro e w3 ⟨v3, u3, rfl, ho, hb⟩
                      obtain ⟨A3, n3, c3, rfl⟩ := (ho.at_ 0 rfl).shape3
                      obtain ⟨B3, m3, d3, rfl⟩ := (ho.at_ 1 rfl).shape3
                      have S_4 := Lib.hid (S_3.out.rows ho hb)
                      clear S_3
                      clear ho hb
                      have hk_res_0_4 := S_4.out.cell 0 0 rfl rfl
                      have hk_res_0_4f := S_4.out.froz 0 0 rfl rfl
                      have hk_res_1_4 := S_4.out.cell 0 1 rfl rfl
                      have hk_res_1_4f := S_4.out.froz 0 1 rfl rfl
                      have hk_res_2_4 := S_4.out.cell 0 2 rfl rfl
                      have hk_res_2_4f := S_4.out.froz 0 2 rfl rfl
                      have hk_res_3_4 := S_4.out.cell 0 3 rfl rfl
                      have hk_res_3_4f := S_4.out.froz 0 3 rfl rfl
                      have hk_res_4_4 := S_4.out.cell 0 4 rfl rfl
                      have hk_res_4_4f := S_4.out.froz 0 4 rfl rfl
                      have hk_res_5_4 := S_4.out.cell 0 5 rfl rfl
                      have hk_res_5_4f := S_4.out.froz 0 5 rfl rfl
                      have hk_res_6_4 := S_4.out.cell 0 6 rfl rfl
                      have hk_res_6_4f := S_4.out.froz 0 6 rfl rfl
                      have hk_res_7_4 := S_4.out.cell 0 7 rfl rfl
                      have hk_res_7_4f := S_4.out.froz 0 7 rfl rfl
                      have hk_res_8_4 := S_4.out.cell 0 8 rfl rfl
                      have hk_res_8_4f := S_4.out.froz 0 8 rfl rfl
                      have hk_res_9_4 := S_4.out.cell 0 9 rfl rfl
                      have hk_res_9_4f := S_4.out.froz 0 9 rfl rfl
                      have hk_res_10_4 := S_4.out.cell 0 10 rfl rfl
                      have hk_res_10_4f := S_4.out.froz 0 10 rfl rfl
                      go_wp2
                      have SR := Lib.hid (((((((((((S_4.out.set 0 0 (.int .i64 (b)) rfl rfl).set 0 1 (.int .i64 (a)) rfl rfl).set 0 2 (.bool (Fr.of k).s) rfl rfl).set 0 3 ((.slice A1 n1 c1)) rfl rfl).set 0 4 ((.slice B1 m1 d1)) rfl rfl).set 0 5 (.bool (Fr.of (-x)).s) rfl rfl).set 0 6 ((.slice A2 n2 c2)) rfl rfl).set 0 7 ((.slice B2 m2 d2)) rfl rfl).set 0 8 (.bool (Fr.of (-y)).s) rfl rfl).set 0 9 ((.slice A3 n3 c3)) rfl rfl).set 0 10 ((.slice B3 m3 d3)) rfl rfl)
                      have hr0 := S_4.out.cell 0 0 rfl rfl
                      have hr1 := S_4.out.cell 0 1 rfl rfl
                      have hr2 := S_4.out.cell 0 2 rfl rfl
                      have hr3 := S_4.out.cell 0 3 rfl rfl
                      have hr4 := S_4.out.cell 0 4 rfl rfl
                      have hr5 := S_4.out.cell 0 5 rfl rfl
                      have hr6 := S_4.out.cell 0 6 rfl rfl
                      have hr7 := S_4.out.cell 0 7 rfl rfl
                      have hr8 := S_4.out.cell 0 8 rfl rfl
                      have hr9 := S_4.out.cell 0 9 rfl rfl
                      have hr10 := S_4.out.cell 0 10 rfl rfl
                      exact bodyPost_ret (v := .tuple #[.agg #[.int .i64 (b), .int .i64 (a), .bool (Fr.of k).s, (.slice A1 n1 c1), (.slice B1 m1 d1), .bool (Fr.of (-x)).s, (.slice A2 n2 c2), (.slice B2 m2 d2), .bool (Fr.of (-y)).s, (.slice A3 n3 c3), (.slice B3 m3 d3)], .bool true]) (by simp [results, Try.results12, go_sem, hr0, hr1, hr2, hr3, hr4, hr5, hr6, hr7, hr8, hr9, hr10]) rfl ⟨_, _, _, _, _, _, rfl, SR.out.pick [2, 1, 0] [[((.slice A1 n1 c1), ints (Fr.of k).xs), ((.slice B1 m1 d1), ints (Fr.of k).ys)], [((.slice A2 n2 c2), ints (Fr.of (-x)).xs), ((.slice B2 m2 d2), ints (Fr.of (-x)).ys)], [((.slice A3 n3 c3), ints (Fr.of (-y)).xs), ((.slice B3 m3 d3), ints (Fr.of (-y)).ys)]] (by decide) rfl, SR.out.below⟩
                    · obtain ⟨e1, e2, e3, e4, e5⟩ := nl_le HK.out hc
                      rw [e1, e2, e3, e4, e5, HK.out]
                      clear e1 e2 e3 e4 e5
                      have S_5 := Lib.hid (show St w (w.alloc (.cells #[.int .i64 0, .int .i64 0, .bool false, .slice none 0 0, .slice none 0 0, .bool false, .slice none 0 0, .slice none 0 0, .bool false, .slice none 0 0, .slice none 0 0] 35)) [(w.heap.size, [.int .i64 0, .int .i64 0, .bool false, .slice none 0 0, .slice none 0 0, .bool false, .slice none 0 0, .slice none 0 0, .bool false, .slice none 0 0, .slice none 0 0])] [] from ((St.start w).alloc_at (b := w.heap.size) [.int .i64 0, .int .i64 0, .bool false, .slice none 0 0, .slice none 0 0, .bool false, .slice none 0 0, .slice none 0 0, .bool false, .slice none 0 0, .slice none 0 0] 35 (by first | rfl | simp)))
                      go_enter Try.func12, Try.ntmps12
                      go_wp2_with fail
                      refine (l06Node_yes a _ H1.out).mono ?_
                      rintro e w' ⟨rfl, hw⟩
                      subst hw
                      go_wp2_with fail
                      refine (l06Node_yes b _ H2.out).mono ?_
                      rintro e w' ⟨rfl, hw⟩
                      subst hw
                      go_wp2_with fail
                      refine (l01In_yes k 1 9999 _ H4.out.1 H4.out.2).mono ?_
                      rintro e w' ⟨rfl, hw⟩
                      subst hw
                      go_wp2_with fail
                      refine (l01In_yes x (-1000000) 1000000 _ H6.out.1 H6.out.2).mono ?_
                      rintro e w' ⟨rfl, hw⟩
                      subst hw
                      go_wp2_with fail
                      refine (l01In_yes y (-1000000) 1000000 _ H7.out.1 H7.out.2).mono ?_
                      rintro e w' ⟨rfl, hw⟩
                      subst hw
                      go_wp2_with fail
                      refine (ratFromInt_s (k) _ (by omega)).mono ?_
                      rintro e w1 ⟨v1, u1, rfl, ho, hb⟩
                      obtain ⟨A1, n1, c1, rfl⟩ := (ho.at_ 0 rfl).shape3
                      obtain ⟨B1, m1, d1, rfl⟩ := (ho.at_ 1 rfl).shape3
                      have S_6 := Lib.hid (S_5.out.rows ho hb)
                      clear S_5
                      clear ho hb
                      go_wp2_with fail
                      refine (ratFromInt_s (x) _ (by omega)).mono ?_
                      rintro e w2 ⟨v2, u2, rfl, ho, hb⟩
                      obtain ⟨A2, n2, c2, rfl⟩ := (ho.at_ 0 rfl).shape3
                      obtain ⟨B2, m2, d2, rfl⟩ := (ho.at_ 1 rfl).shape3
                      have S_7 := Lib.hid (S_6.out.rows ho hb)
                      clear S_6
                      clear ho hb
                      go_wp2_with fail
                      refine (ratFromInt_s (y) _ (by omega)).mono ?_
                      rintro e w3 ⟨v3, u3, rfl, ho, hb⟩
                      obtain ⟨A3, n3, c3, rfl⟩ := (ho.at_ 0 rfl).shape3
                      obtain ⟨B3, m3, d3, rfl⟩ := (ho.at_ 1 rfl).shape3
                      have S_8 := Lib.hid (S_7.out.rows ho hb)
                      clear S_7
                      clear ho hb
                      have hk_res_0_8 := S_8.out.cell 0 0 rfl rfl
                      have hk_res_0_8f := S_8.out.froz 0 0 rfl rfl
                      have hk_res_1_8 := S_8.out.cell 0 1 rfl rfl
                      have hk_res_1_8f := S_8.out.froz 0 1 rfl rfl
                      have hk_res_2_8 := S_8.out.cell 0 2 rfl rfl
                      have hk_res_2_8f := S_8.out.froz 0 2 rfl rfl
                      have hk_res_3_8 := S_8.out.cell 0 3 rfl rfl
                      have hk_res_3_8f := S_8.out.froz 0 3 rfl rfl
                      have hk_res_4_8 := S_8.out.cell 0 4 rfl rfl
                      have hk_res_4_8f := S_8.out.froz 0 4 rfl rfl
                      have hk_res_5_8 := S_8.out.cell 0 5 rfl rfl
                      have hk_res_5_8f := S_8.out.froz 0 5 rfl rfl
                      have hk_res_6_8 := S_8.out.cell 0 6 rfl rfl
                      have hk_res_6_8f := S_8.out.froz 0 6 rfl rfl
                      have hk_res_7_8 := S_8.out.cell 0 7 rfl rfl
                      have hk_res_7_8f := S_8.out.froz 0 7 rfl rfl
                      have hk_res_8_8 := S_8.out.cell 0 8 rfl rfl
                      have hk_res_8_8f := S_8.out.froz 0 8 rfl rfl
                      have hk_res_9_8 := S_8.out.cell 0 9 rfl rfl
                      have hk_res_9_8f := S_8.out.froz 0 9 rfl rfl
                      have hk_res_10_8 := S_8.out.cell 0 10 rfl rfl
                      have hk_res_10_8f := S_8.out.froz 0 10 rfl rfl
                      go_wp2
                      have SR := Lib.hid (((((((((((S_8.out.set 0 0 (.int .i64 (a)) rfl rfl).set 0 1 (.int .i64 (b)) rfl rfl).set 0 2 (.bool (Fr.of k).s) rfl rfl).set 0 3 ((.slice A1 n1 c1)) rfl rfl).set 0 4 ((.slice B1 m1 d1)) rfl rfl).set 0 5 (.bool (Fr.of (x)).s) rfl rfl).set 0 6 ((.slice A2 n2 c2)) rfl rfl).set 0 7 ((.slice B2 m2 d2)) rfl rfl).set 0 8 (.bool (Fr.of (y)).s) rfl rfl).set 0 9 ((.slice A3 n3 c3)) rfl rfl).set 0 10 ((.slice B3 m3 d3)) rfl rfl)
                      have hr0 := S_8.out.cell 0 0 rfl rfl
                      have hr1 := S_8.out.cell 0 1 rfl rfl
                      have hr2 := S_8.out.cell 0 2 rfl rfl
                      have hr3 := S_8.out.cell 0 3 rfl rfl
                      have hr4 := S_8.out.cell 0 4 rfl rfl
                      have hr5 := S_8.out.cell 0 5 rfl rfl
                      have hr6 := S_8.out.cell 0 6 rfl rfl
                      have hr7 := S_8.out.cell 0 7 rfl rfl
                      have hr8 := S_8.out.cell 0 8 rfl rfl
                      have hr9 := S_8.out.cell 0 9 rfl rfl
                      have hr10 := S_8.out.cell 0 10 rfl rfl
                      exact bodyPost_ret (v := .tuple #[.agg #[.int .i64 (a), .int .i64 (b), .bool (Fr.of k).s, (.slice A1 n1 c1), (.slice B1 m1 d1), .bool (Fr.of (x)).s, (.slice A2 n2 c2), (.slice B2 m2 d2), .bool (Fr.of (y)).s, (.slice A3 n3 c3), (.slice B3 m3 d3)], .bool true]) (by simp [results, Try.results12, go_sem, hr0, hr1, hr2, hr3, hr4, hr5, hr6, hr7, hr8, hr9, hr10]) rfl ⟨_, _, _, _, _, _, rfl, SR.out.pick [2, 1, 0] [[((.slice A1 n1 c1), ints (Fr.of k).xs), ((.slice B1 m1 d1), ints (Fr.of k).ys)], [((.slice A2 n2 c2), ints (Fr.of (x)).xs), ((.slice B2 m2 d2), ints (Fr.of (x)).ys)], [((.slice A3 n3 c3), ints (Fr.of (y)).xs), ((.slice B3 m3 d3), ints (Fr.of (y)).ys)]] (by decide) rfl, SR.out.below⟩
                  · have g9 : decide (y ≤ 1000000) = false := decide_eq_false h7b
                    have f1 : (a == b) = false := by simp [h3]
                    have f2 : decide (k < 1) = false := by simp; omega
                    have f3 : decide (9999 < k) = false := by simp; omega
                    have HK := okN_not (a := a) (b := b) (k := k) (x := x) (y := y) (by omega)
                    obtain ⟨e1, e2, e3, e4, e5⟩ := nl_no HK
                    rw [e1, e2, e3, e4, e5, HK]
                    clear e1 e2 e3 e4 e5 HK
                    have S_9 := Lib.hid (show St w (w.alloc (.cells #[.int .i64 0, .int .i64 0, .bool false, .slice none 0 0, .slice none 0 0, .bool false, .slice none 0 0, .slice none 0 0, .bool false, .slice none 0 0, .slice none 0 0] 35)) [(w.heap.size, [.int .i64 0, .int .i64 0, .bool false, .slice none 0 0, .slice none 0 0, .bool false, .slice none 0 0, .slice none 0 0, .bool false, .slice none 0 0, .slice none 0 0])] [] from ((St.start w).alloc_at (b := w.heap.size) [.int .i64 0, .int .i64 0, .bool false, .slice none 0 0, .slice none 0 0, .bool false, .slice none 0 0, .slice none 0 0, .bool false, .slice none 0 0, .slice none 0 0] 35 (by first | rfl | simp)))
                    go_enter Try.func12, Try.ntmps12
                    go_wp2
                    all_goals exact bodyPost_ret (v := .tuple #[.agg #[.int .i64 0, .int .i64 0, .bool false, .slice none 0 0, .slice none 0 0, .bool false, .slice none 0 0, .slice none 0 0, .bool false, .slice none 0 0, .slice none 0 0], .bool false]) (by simp [results, Try.results12, go_sem]) rfl ⟨_, _, _, _, _, _, rfl, Owns.nils _ _ 6, S_9.out.below⟩
                · have g9 : decide (-1000000 ≤ y) = false := decide_eq_false h7a
                  have f1 : (a == b) = false := by simp [h3]
                  have f2 : decide (k < 1) = false := by simp; omega
                  have f3 : decide (9999 < k) = false := by simp; omega
                  have HK := okN_not (a := a) (b := b) (k := k) (x := x) (y := y) (by omega)
                  obtain ⟨e1, e2, e3, e4, e5⟩ := nl_no HK
                  rw [e1, e2, e3, e4, e5, HK]
                  clear e1 e2 e3 e4 e5 HK
                  have S_10 := Lib.hid (show St w (w.alloc (.cells #[.int .i64 0, .int .i64 0, .bool false, .slice none 0 0, .slice none 0 0, .bool false, .slice none 0 0, .slice none 0 0, .bool false, .slice none 0 0, .slice none 0 0] 35)) [(w.heap.size, [.int .i64 0, .int .i64 0, .bool false, .slice none 0 0, .slice none 0 0, .bool false, .slice none 0 0, .slice none 0 0, .bool false, .slice none 0 0, .slice none 0 0])] [] from ((St.start w).alloc_at (b := w.heap.size) [.int .i64 0, .int .i64 0, .bool false, .slice none 0 0, .slice none 0 0, .bool false, .slice none 0 0, .slice none 0 0, .bool false, .slice none 0 0, .slice none 0 0] 35 (by first | rfl | simp)))
                  go_enter Try.func12, Try.ntmps12
                  go_wp2
                  all_goals exact bodyPost_ret (v := .tuple #[.agg #[.int .i64 0, .int .i64 0, .bool false, .slice none 0 0, .slice none 0 0, .bool false, .slice none 0 0, .slice none 0 0, .bool false, .slice none 0 0, .slice none 0 0], .bool false]) (by simp [results, Try.results12, go_sem]) rfl ⟨_, _, _, _, _, _, rfl, Owns.nils _ _ 6, S_10.out.below⟩
              · have g9 : decide (x ≤ 1000000) = false := decide_eq_false h6b
                have f1 : (a == b) = false := by simp [h3]
                have f2 : decide (k < 1) = false := by simp; omega
                have f3 : decide (9999 < k) = false := by simp; omega
                have HK := okN_not (a := a) (b := b) (k := k) (x := x) (y := y) (by omega)
                obtain ⟨e1, e2, e3, e4, e5⟩ := nl_no HK
                rw [e1, e2, e3, e4, e5, HK]
                clear e1 e2 e3 e4 e5 HK
                have S_11 := Lib.hid (show St w (w.alloc (.cells #[.int .i64 0, .int .i64 0, .bool false, .slice none 0 0, .slice none 0 0, .bool false, .slice none 0 0, .slice none 0 0, .bool false, .slice none 0 0, .slice none 0 0] 35)) [(w.heap.size, [.int .i64 0, .int .i64 0, .bool false, .slice none 0 0, .slice none 0 0, .bool false, .slice none 0 0, .slice none 0 0, .bool false, .slice none 0 0, .slice none 0 0])] [] from ((St.start w).alloc_at (b := w.heap.size) [.int .i64 0, .int .i64 0, .bool false, .slice none 0 0, .slice none 0 0, .bool false, .slice none 0 0, .slice none 0 0, .bool false, .slice none 0 0, .slice none 0 0] 35 (by first | rfl | simp)))
                go_enter Try.func12, Try.ntmps12
                go_wp2
                all_goals exact bodyPost_ret (v := .tuple #[.agg #[.int .i64 0, .int .i64 0, .bool false, .slice none 0 0, .slice none 0 0, .bool false, .slice none 0 0, .slice none 0 0, .bool false, .slice none 0 0, .slice none 0 0], .bool false]) (by simp [results, Try.results12, go_sem]) rfl ⟨_, _, _, _, _, _, rfl, Owns.nils _ _ 6, S_11.out.below⟩
            · have g9 : decide (-1000000 ≤ x) = false := decide_eq_false h6a
              have f1 : (a == b) = false := by simp [h3]
              have f2 : decide (k < 1) = false := by simp; omega
              have f3 : decide (9999 < k) = false := by simp; omega
              have HK := okN_not (a := a) (b := b) (k := k) (x := x) (y := y) (by omega)
              obtain ⟨e1, e2, e3, e4, e5⟩ := nl_no HK
              rw [e1, e2, e3, e4, e5, HK]
              clear e1 e2 e3 e4 e5 HK
              have S_12 := Lib.hid (show St w (w.alloc (.cells #[.int .i64 0, .int .i64 0, .bool false, .slice none 0 0, .slice none 0 0, .bool false, .slice none 0 0, .slice none 0 0, .bool false, .slice none 0 0, .slice none 0 0] 35)) [(w.heap.size, [.int .i64 0, .int .i64 0, .bool false, .slice none 0 0, .slice none 0 0, .bool false, .slice none 0 0, .slice none 0 0, .bool false, .slice none 0 0, .slice none 0 0])] [] from ((St.start w).alloc_at (b := w.heap.size) [.int .i64 0, .int .i64 0, .bool false, .slice none 0 0, .slice none 0 0, .bool false, .slice none 0 0, .slice none 0 0, .bool false, .slice none 0 0, .slice none 0 0] 35 (by first | rfl | simp)))
              go_enter Try.func12, Try.ntmps12
              go_wp2
              all_goals exact bodyPost_ret (v := .tuple #[.agg #[.int .i64 0, .int .i64 0, .bool false, .slice none 0 0, .slice none 0 0, .bool false, .slice none 0 0, .slice none 0 0, .bool false, .slice none 0 0, .slice none 0 0], .bool false]) (by simp [results, Try.results12, go_sem]) rfl ⟨_, _, _, _, _, _, rfl, Owns.nils _ _ 6, S_12.out.below⟩
          · have f1 : (a == b) = false := by simp [h3]
            have f2 : decide (k < 1) = false := by simp; omega
            have HK := okN_not (a := a) (b := b) (k := k) (x := x) (y := y) (by omega)
            obtain ⟨e1, e2, e3, e4, e5⟩ := nl_no HK
            rw [e1, e2, e3, e4, e5, HK]
            clear e1 e2 e3 e4 e5 HK
            have S_13 := Lib.hid (show St w (w.alloc (.cells #[.int .i64 0, .int .i64 0, .bool false, .slice none 0 0, .slice none 0 0, .bool false, .slice none 0 0, .slice none 0 0, .bool false, .slice none 0 0, .slice none 0 0] 35)) [(w.heap.size, [.int .i64 0, .int .i64 0, .bool false, .slice none 0 0, .slice none 0 0, .bool false, .slice none 0 0, .slice none 0 0, .bool false, .slice none 0 0, .slice none 0 0])] [] from ((St.start w).alloc_at (b := w.heap.size) [.int .i64 0, .int .i64 0, .bool false, .slice none 0 0, .slice none 0 0, .bool false, .slice none 0 0, .slice none 0 0, .bool false, .slice none 0 0, .slice none 0 0] 35 (by first | rfl | simp)))
            go_enter Try.func12, Try.ntmps12
            go_wp2
            all_goals exact bodyPost_ret (v := .tuple #[.agg #[.int .i64 0, .int .i64 0, .bool false, .slice none 0 0, .slice none 0 0, .bool false, .slice none 0 0, .slice none 0 0, .bool false, .slice none 0 0, .slice none 0 0], .bool false]) (by simp [results, Try.results12, go_sem]) rfl ⟨_, _, _, _, _, _, rfl, Owns.nils _ _ 6, S_13.out.below⟩
        · have f1 : (a == b) = false := by simp [h3]
          have HK := okN_not (a := a) (b := b) (k := k) (x := x) (y := y) (by omega)
          obtain ⟨e1, e2, e3, e4, e5⟩ := nl_no HK
          rw [e1, e2, e3, e4, e5, HK]
          clear e1 e2 e3 e4 e5 HK
          have S_14 := Lib.hid (show St w (w.alloc (.cells #[.int .i64 0, .int .i64 0, .bool false, .slice none 0 0, .slice none 0 0, .bool false, .slice none 0 0, .slice none 0 0, .bool false, .slice none 0 0, .slice none 0 0] 35)) [(w.heap.size, [.int .i64 0, .int .i64 0, .bool false, .slice none 0 0, .slice none 0 0, .bool false, .slice none 0 0, .slice none 0 0, .bool false, .slice none 0 0, .slice none 0 0])] [] from ((St.start w).alloc_at (b := w.heap.size) [.int .i64 0, .int .i64 0, .bool false, .slice none 0 0, .slice none 0 0, .bool false, .slice none 0 0, .slice none 0 0, .bool false, .slice none 0 0, .slice none 0 0] 35 (by first | rfl | simp)))
          go_enter Try.func12, Try.ntmps12
          go_wp2
          all_goals exact bodyPost_ret (v := .tuple #[.agg #[.int .i64 0, .int .i64 0, .bool false, .slice none 0 0, .slice none 0 0, .bool false, .slice none 0 0, .slice none 0 0, .bool false, .slice none 0 0, .slice none 0 0], .bool false]) (by simp [results, Try.results12, go_sem]) rfl ⟨_, _, _, _, _, _, rfl, Owns.nils _ _ 6, S_14.out.below⟩
      · have HK := okN_not (a := a) (b := b) (k := k) (x := x) (y := y) (by omega)
        obtain ⟨e1, e2, e3, e4, e5⟩ := nl_no HK
        rw [e1, e2, e3, e4, e5, HK]
        clear e1 e2 e3 e4 e5 HK
        have S_15 := Lib.hid (show St w (w.alloc (.cells #[.int .i64 0, .int .i64 0, .bool false, .slice none 0 0, .slice none 0 0, .bool false, .slice none 0 0, .slice none 0 0, .bool false, .slice none 0 0, .slice none 0 0] 35)) [(w.heap.size, [.int .i64 0, .int .i64 0, .bool false, .slice none 0 0, .slice none 0 0, .bool false, .slice none 0 0, .slice none 0 0, .bool false, .slice none 0 0, .slice none 0 0])] [] from ((St.start w).alloc_at (b := w.heap.size) [.int .i64 0, .int .i64 0, .bool false, .slice none 0 0, .slice none 0 0, .bool false, .slice none 0 0, .slice none 0 0, .bool false, .slice none 0 0, .slice none 0 0] 35 (by first | rfl | simp)))
        go_enter Try.func12, Try.ntmps12
        go_wp2
        all_goals exact bodyPost_ret (v := .tuple #[.agg #[.int .i64 0, .int .i64 0, .bool false, .slice none 0 0, .slice none 0 0, .bool false, .slice none 0 0, .slice none 0 0, .bool false, .slice none 0 0, .slice none 0 0], .bool false]) (by simp [results, Try.results12, go_sem]) rfl ⟨_, _, _, _, _, _, rfl, Owns.nils _ _ 6, S_15.out.below⟩
    · have HK := okN_not (a := a) (b := b) (k := k) (x := x) (y := y) (by omega)
      obtain ⟨e1, e2, e3, e4, e5⟩ := nl_no HK
      rw [e1, e2, e3, e4, e5, HK]
      clear e1 e2 e3 e4 e5 HK
      have S_16 := Lib.hid (show St w (w.alloc (.cells #[.int .i64 0, .int .i64 0, .bool false, .slice none 0 0, .slice none 0 0, .bool false, .slice none 0 0, .slice none 0 0, .bool false, .slice none 0 0, .slice none 0 0] 35)) [(w.heap.size, [.int .i64 0, .int .i64 0, .bool false, .slice none 0 0, .slice none 0 0, .bool false, .slice none 0 0, .slice none 0 0, .bool false, .slice none 0 0, .slice none 0 0])] [] from ((St.start w).alloc_at (b := w.heap.size) [.int .i64 0, .int .i64 0, .bool false, .slice none 0 0, .slice none 0 0, .bool false, .slice none 0 0, .slice none 0 0, .bool false, .slice none 0 0, .slice none 0 0] 35 (by first | rfl | simp)))
      go_enter Try.func12, Try.ntmps12
      go_wp2
      all_goals exact bodyPost_ret (v := .tuple #[.agg #[.int .i64 0, .int .i64 0, .bool false, .slice none 0 0, .slice none 0 0, .bool false, .slice none 0 0, .slice none 0 0, .bool false, .slice none 0 0, .slice none 0 0], .bool false]) (by simp [results, Try.results12, go_sem]) rfl ⟨_, _, _, _, _, _, rfl, Owns.nils _ _ 6, S_16.out.below⟩
  · have HK := okN_not (a := a) (b := b) (k := k) (x := x) (y := y) (by omega)
    obtain ⟨e1, e2, e3, e4, e5⟩ := nl_no HK
    rw [e1, e2, e3, e4, e5, HK]
    clear e1 e2 e3 e4 e5 HK
    have S_17 := Lib.hid (show St w (w.alloc (.cells #[.int .i64 0, .int .i64 0, .bool false, .slice none 0 0, .slice none 0 0, .bool false, .slice none 0 0, .slice none 0 0, .bool false, .slice none 0 0, .slice none 0 0] 35)) [(w.heap.size, [.int .i64 0, .int .i64 0, .bool false, .slice none 0 0, .slice none 0 0, .bool false, .slice none 0 0, .slice none 0 0, .bool false, .slice none 0 0, .slice none 0 0])] [] from ((St.start w).alloc_at (b := w.heap.size) [.int .i64 0, .int .i64 0, .bool false, .slice none 0 0, .slice none 0 0, .bool false, .slice none 0 0, .slice none 0 0, .bool false, .slice none 0 0, .slice none 0 0] 35 (by first | rfl | simp)))
    go_enter Try.func12, Try.ntmps12
    go_wp2
    all_goals exact bodyPost_ret (v := .tuple #[.agg #[.int .i64 0, .int .i64 0, .bool false, .slice none 0 0, .slice none 0 0, .bool false, .slice none 0 0, .slice none 0 0, .bool false, .slice none 0 0, .slice none 0 0], .bool false]) (by simp [results, Try.results12, go_sem]) rfl ⟨_, _, _, _, _, _, rfl, Owns.nils _ _ 6, S_17.out.below⟩
end Go.Proofs.Ytdilbhkdkppodaa
