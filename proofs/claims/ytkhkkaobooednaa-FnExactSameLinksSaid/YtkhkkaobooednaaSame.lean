/- SameLinks of both sides. Conditions: none. -/
import Derived.Test.YtkhkkaobooednaaLinkOf
namespace Go.Proofs.Ytkhkkaobooednaa
open Go.RowKit Nt Fr
set_option linter.unusedVariables false

/-- Are two links the same? -/
def sameK (A B : Int) (P Q R : Fr) (C E : Int) (V U T : Fr) : Bool := decide (A = C) && (decide (B = E) && (P.same V && (Q.same U && R.same T)))
def sameDt (x y : Dt) : Bool := sameK x.A x.B x.P x.Q x.R y.A y.B y.P y.Q y.R
def sameD : List Dt → List Dt → Bool
  | [], [] => true
  | x :: r, y :: s => sameDt x y && sameD r s
  | _, _ => false
theorem sameD_len {a b : List Dt} (h : a.length ≠ b.length) : sameD a b = false := by
  induction a generalizing b with
  | nil => cases b with
    | nil => exact absurd rfl h
    | cons y s => rfl
  | cons x r ih => cases b with
    | nil => rfl
    | cons y s => simp only [sameD, ih (b := s) (by simpa using h), Bool.and_false]
theorem sameD_bad {a b : List Dt} {k : Nat} {x y : Dt} (h1 : a[k]? = some x) (h2 : b[k]? = some y) (h : sameDt x y = false) : sameD a b = false := by
  induction a generalizing b k with
  | nil => simp at h1
  | cons u r ih => cases b with
    | nil => rfl
    | cons v s => cases k with
      | zero => simp at h1 h2; subst h1 h2; simp [sameD, h]
      | succ k => simp at h1 h2; simp [sameD, ih h1 h2]
theorem sameD_all {a b : List Dt} (hl : a.length = b.length) (h : ∀ (k : Nat) (x y : Dt), a[k]? = some x → b[k]? = some y → sameDt x y = true) : sameD a b = true := by
  induction a generalizing b with
  | nil => cases b with
    | nil => rfl
    | cons y s => simp at hl
  | cons x r ih => cases b with
    | nil => simp at hl
    | cons y s => simp only [sameD, h 0 x y rfl rfl, Bool.true_and]; exact ih (by simpa using hl) (fun k u v hu hv => h (k + 1) u v (by simpa using hu) (by simpa using hv))
set_option maxRecDepth 100000 in
set_option maxHeartbeats 4000000 in
theorem sameLink_f (A B : Int) (P Q R : Fr) (p0 p1 q0 q1 r0 r1 : Value) (C E : Int) (V U T : Fr) (v0 v1 u0 u1 t0 t1 : Value) (w : World) (hL : LkA w P Q R p0 p1 q0 q1 r0 r1) (hM : LkA w V U T v0 v1 u0 u1 t0 t1) :
    Calls Try.prog 30 #[.agg #[.int .i64 A, .int .i64 B, .bool P.s, p0, p1, .bool Q.s, q0, q1, .bool R.s, r0, r1], .agg #[.int .i64 C, .int .i64 E, .bool V.s, v0, v1, .bool U.s, u0, u1, .bool T.s, t0, t1]] w fun e w' => e = .returned (.bool (sameK A B P Q R C E V U T)) ∧ Below w.heap.size w w' := by
  have HL := Lib.hid hL
  have HM := Lib.hid hM
  clear hL hM
  obtain ⟨s1, hs1⟩ : ∃ z, P.same V = z := ⟨_, rfl⟩
  obtain ⟨s2, hs2⟩ : ∃ z, Q.same U = z := ⟨_, rfl⟩
  obtain ⟨s3, hs3⟩ : ∃ z, R.same T = z := ⟨_, rfl⟩
  obtain ⟨q, hq⟩ : ∃ z, cmpK A B C E = z := ⟨_, rfl⟩
  obtain ⟨ans, hans⟩ : ∃ z, sameK A B P Q R C E V U T = z := ⟨_, rfl⟩
  have HN := Lib.hid (show ¬ q = 0 → false = ans by intro h; rw [← hans]; unfold sameK; exact (if e1 : A = C then if e2 : B = E then absurd ((cmpK_zero A B C E).mpr ⟨e1, e2⟩) (by rw [hq]; exact h) else (by rw [decide_eq_false e2]; simp) else (by rw [decide_eq_false e1]; rfl)))
  have HY := Lib.hid (show q = 0 → (s1 && (s2 && s3)) = ans by intro h; obtain ⟨e1, e2⟩ := (cmpK_zero A B C E).mp (by rw [hq]; exact h); rw [← hans, ← hs1, ← hs2, ← hs3]; unfold sameK; rw [decide_eq_true e1, decide_eq_true e2]; rfl)
  rw [hans]
  have HQ := Lib.hid hq
  have H1 := Lib.hid hs1
  have H2 := Lib.hid hs2
  have H3 := Lib.hid hs3
  clear hq hs1 hs2 hs3 hans
  have S_1 := Lib.hid (show St w ((w.alloc (.cells #[.int .i64 A, .int .i64 B, .bool P.s, p0, p1, .bool Q.s, q0, q1, .bool R.s, r0, r1] 39)).alloc (.cells #[.int .i64 C, .int .i64 E, .bool V.s, v0, v1, .bool U.s, u0, u1, .bool T.s, t0, t1] 39)) [(w.heap.size + 1, [.int .i64 C, .int .i64 E, .bool V.s, v0, v1, .bool U.s, u0, u1, .bool T.s, t0, t1]), (w.heap.size, [.int .i64 A, .int .i64 B, .bool P.s, p0, p1, .bool Q.s, q0, q1, .bool R.s, r0, r1])] [] from (((St.start w).alloc_at (b := w.heap.size) [.int .i64 A, .int .i64 B, .bool P.s, p0, p1, .bool Q.s, q0, q1, .bool R.s, r0, r1] 39 (by first | rfl | simp)).alloc_at (b := w.heap.size + 1) [.int .i64 C, .int .i64 E, .bool V.s, v0, v1, .bool U.s, u0, u1, .bool T.s, t0, t1] 39 (by first | rfl | simp)))
  have hne_b_a : w.heap.size + 1 ≠ w.heap.size := by omega
  have hne_a_b : w.heap.size ≠ w.heap.size + 1 := by omega
  go_enter Try.func30, Try.ntmps30
  go_wp2_with fail
  refine (compareK_f A B P Q R p0 p1 q0 q1 r0 r1 C E V U T v0 v1 u0 u1 t0 t1 _).mono ?_
  rintro e w1 ⟨rfl, hb⟩
  have S_2 := Lib.hid (S_1.out.call hb)
  clear S_1
  clear hb
  rw [HQ.out]
  by_cases h0 : q = 0
  · subst h0
    have HE := Lib.hid (HY.out rfl)
    have hk_a_0_2 := S_2.out.cell 1 0 rfl rfl
    have hk_a_1_2 := S_2.out.cell 1 1 rfl rfl
    have hk_a_2_2 := S_2.out.cell 1 2 rfl rfl
    have hk_a_3_2 := S_2.out.cell 1 3 rfl rfl
    have hk_a_4_2 := S_2.out.cell 1 4 rfl rfl
    have hk_a_5_2 := S_2.out.cell 1 5 rfl rfl
    have hk_a_6_2 := S_2.out.cell 1 6 rfl rfl
    have hk_a_7_2 := S_2.out.cell 1 7 rfl rfl
    have hk_a_8_2 := S_2.out.cell 1 8 rfl rfl
    have hk_a_9_2 := S_2.out.cell 1 9 rfl rfl
    have hk_a_10_2 := S_2.out.cell 1 10 rfl rfl
    have hk_b_0_2 := S_2.out.cell 0 0 rfl rfl
    have hk_b_1_2 := S_2.out.cell 0 1 rfl rfl
    have hk_b_2_2 := S_2.out.cell 0 2 rfl rfl
    have hk_b_3_2 := S_2.out.cell 0 3 rfl rfl
    have hk_b_4_2 := S_2.out.cell 0 4 rfl rfl
    have hk_b_5_2 := S_2.out.cell 0 5 rfl rfl
    have hk_b_6_2 := S_2.out.cell 0 6 rfl rfl
    have hk_b_7_2 := S_2.out.cell 0 7 rfl rfl
    have hk_b_8_2 := S_2.out.cell 0 8 rfl rfl
    have hk_b_9_2 := S_2.out.cell 0 9 rfl rfl
    have hk_b_10_2 := S_2.out.cell 0 10 rfl rfl
    go_wp2_with fail
    refine (ratEqual_i P V p0 p1 v0 v1 _ (S_2.out.lkA HL.out).p (S_2.out.lkA HM.out).p).mono ?_
    rintro e w2 ⟨rfl, hb⟩
    have S_3 := Lib.hid (S_2.out.call hb)
    clear S_2
    clear hb
    rw [H1.out]
    clear hk_a_0_2 hk_a_1_2 hk_a_2_2 hk_a_3_2 hk_a_4_2 hk_a_5_2 hk_a_6_2 hk_a_7_2 hk_a_8_2 hk_a_9_2 hk_a_10_2 hk_b_0_2 hk_b_1_2 hk_b_2_2 hk_b_3_2 hk_b_4_2 hk_b_5_2 hk_b_6_2 hk_b_7_2 hk_b_8_2 hk_b_9_2 hk_b_10_2
    by_cases g1 : s1 = true
    · subst g1
      have hk_a_0_3 := S_3.out.cell 1 0 rfl rfl
      have hk_a_1_3 := S_3.out.cell 1 1 rfl rfl
      have hk_a_2_3 := S_3.out.cell 1 2 rfl rfl
      have hk_a_3_3 := S_3.out.cell 1 3 rfl rfl
      have hk_a_4_3 := S_3.out.cell 1 4 rfl rfl
      have hk_a_5_3 := S_3.out.cell 1 5 rfl rfl
      have hk_a_6_3 := S_3.out.cell 1 6 rfl rfl
      have hk_a_7_3 := S_3.out.cell 1 7 rfl rfl
      have hk_a_8_3 := S_3.out.cell 1 8 rfl rfl
      have hk_a_9_3 := S_3.out.cell 1 9 rfl rfl
      have hk_a_10_3 := S_3.out.cell 1 10 rfl rfl
      have hk_b_0_3 := S_3.out.cell 0 0 rfl rfl
      have hk_b_1_3 := S_3.out.cell 0 1 rfl rfl
      have hk_b_2_3 := S_3.out.cell 0 2 rfl rfl
      have hk_b_3_3 := S_3.out.cell 0 3 rfl rfl
      have hk_b_4_3 := S_3.out.cell 0 4 rfl rfl
      have hk_b_5_3 := S_3.out.cell 0 5 rfl rfl
      have hk_b_6_3 := S_3.out.cell 0 6 rfl rfl
      have hk_b_7_3 := S_3.out.cell 0 7 rfl rfl
      have hk_b_8_3 := S_3.out.cell 0 8 rfl rfl
      have hk_b_9_3 := S_3.out.cell 0 9 rfl rfl
      have hk_b_10_3 := S_3.out.cell 0 10 rfl rfl
      go_wp2_with fail
      refine (ratEqual_i Q U q0 q1 u0 u1 _ (S_3.out.lkA HL.out).q (S_3.out.lkA HM.out).q).mono ?_
      rintro e w3 ⟨rfl, hb⟩
      have S_4 := Lib.hid (S_3.out.call hb)
      clear S_3
      clear hb
      rw [H2.out]
      clear hk_a_0_3 hk_a_1_3 hk_a_2_3 hk_a_3_3 hk_a_4_3 hk_a_5_3 hk_a_6_3 hk_a_7_3 hk_a_8_3 hk_a_9_3 hk_a_10_3 hk_b_0_3 hk_b_1_3 hk_b_2_3 hk_b_3_3 hk_b_4_3 hk_b_5_3 hk_b_6_3 hk_b_7_3 hk_b_8_3 hk_b_9_3 hk_b_10_3
      by_cases g2 : s2 = true
      · subst g2
        have hk_a_0_4 := S_4.out.cell 1 0 rfl rfl
        have hk_a_1_4 := S_4.out.cell 1 1 rfl rfl
        have hk_a_2_4 := S_4.out.cell 1 2 rfl rfl
        have hk_a_3_4 := S_4.out.cell 1 3 rfl rfl
        have hk_a_4_4 := S_4.out.cell 1 4 rfl rfl
        have hk_a_5_4 := S_4.out.cell 1 5 rfl rfl
        have hk_a_6_4 := S_4.out.cell 1 6 rfl rfl
        have hk_a_7_4 := S_4.out.cell 1 7 rfl rfl
        have hk_a_8_4 := S_4.out.cell 1 8 rfl rfl
        have hk_a_9_4 := S_4.out.cell 1 9 rfl rfl
        have hk_a_10_4 := S_4.out.cell 1 10 rfl rfl
        have hk_b_0_4 := S_4.out.cell 0 0 rfl rfl
        have hk_b_1_4 := S_4.out.cell 0 1 rfl rfl
        have hk_b_2_4 := S_4.out.cell 0 2 rfl rfl
        have hk_b_3_4 := S_4.out.cell 0 3 rfl rfl
        have hk_b_4_4 := S_4.out.cell 0 4 rfl rfl
        have hk_b_5_4 := S_4.out.cell 0 5 rfl rfl
        have hk_b_6_4 := S_4.out.cell 0 6 rfl rfl
        have hk_b_7_4 := S_4.out.cell 0 7 rfl rfl
        have hk_b_8_4 := S_4.out.cell 0 8 rfl rfl
        have hk_b_9_4 := S_4.out.cell 0 9 rfl rfl
        have hk_b_10_4 := S_4.out.cell 0 10 rfl rfl
        go_wp2_with fail
        refine (ratEqual_i R T r0 r1 t0 t1 _ (S_4.out.lkA HL.out).r (S_4.out.lkA HM.out).r).mono ?_
        rintro e w4 ⟨rfl, hb⟩
        have S_5 := Lib.hid (S_4.out.call hb)
        clear S_4
        clear hb
        rw [H3.out]
        clear hk_a_0_4 hk_a_1_4 hk_a_2_4 hk_a_3_4 hk_a_4_4 hk_a_5_4 hk_a_6_4 hk_a_7_4 hk_a_8_4 hk_a_9_4 hk_a_10_4 hk_b_0_4 hk_b_1_4 hk_b_2_4 hk_b_3_4 hk_b_4_4 hk_b_5_4 hk_b_6_4 hk_b_7_4 hk_b_8_4 hk_b_9_4 hk_b_10_4
        go_wp2
        all_goals go_ret
        all_goals exact ret_b (by rw [← HE.out]; rfl) S_5.out.below
      · rw [Bool.not_eq_true] at g2
        subst g2
        go_wp2
        all_goals go_ret
        all_goals exact ret_b (by rw [← HE.out]; rfl) S_4.out.below
    · rw [Bool.not_eq_true] at g1
      subst g1
      go_wp2
      all_goals go_ret
      all_goals exact ret_b (by rw [← HE.out]; rfl) S_3.out.below
  · have hq2 : (q == 0) = false := by simpa using h0
    have HE := Lib.hid (HN.out h0)
    go_wp2
    all_goals go_ret
    all_goals exact ret_b HE.out S_2.out.below
set_option maxRecDepth 100000 in
set_option maxHeartbeats 4000000 in
theorem equalFunc_f (A B : Option Addr) (n m c d : Nat) (ys zs : List Lr) (w : World) (hA : LArg w A n ys) (hB : LArg w B m zs) (hn : n ≤ 1048576) (hm : m ≤ 1048576) :
    Calls Try.prog 29 #[.slice A n c, .slice B m d, .func (.func 30) #[] #[]] w fun e w' => e = .returned (.bool (sameD (dts ys) (dts zs))) ∧ Below w.heap.size w w' := by
  have HA := Lib.hid hA
  have HB := Lib.hid hB
  have HLA := Lib.hid (show (dts ys).length = n by have := hA.row.1; simpa [dts] using this)
  have HLB := Lib.hid (show (dts zs).length = m by have := hB.row.1; simpa [dts] using this)
  obtain ⟨ans, hans⟩ : ∃ z, sameD (dts ys) (dts zs) = z := ⟨_, rfl⟩
  rw [hans]
  have HANS := Lib.hid hans
  clear hA hB hans
  by_cases hnm : n = m
  · subst hnm
    go_enter Try.func29, Try.ntmps29
    go_wp2
    go_loopw [17] (fun i wr => ∃ k : Nat, k ≤ n ∧ i = .int .i64 k ∧ (∀ (j : Nat) (x y : Dt), j < k → (dts ys)[j]? = some x → (dts zs)[j]? = some y → sameDt x y = true) ∧ Below w.heap.size w wr) (fun i _ => n - (intOf i).toNat)
    case atStart => exact ⟨0, Nat.zero_le _, rfl, fun j x y hj => by omega, Below.refl _ _⟩
    case round =>
      obtain ⟨k, hk, rfl, hlt, hb⟩ := hrel
      have HT := Lib.hid hlt
      have HW := Lib.hid hb
      clear hlt hb
      by_cases hkn : k < n
      · obtain ⟨g, o, y, rfl, hg, hy, hry, hcy⟩ := (HA.out.below HW.out).at_ hkn
        obtain ⟨g', o', z, rfl, hg', hz, hrz, hcz⟩ := (HB.out.below HW.out).at_ hkn
        obtain ⟨YA, YB, YP, YQ, YR, a0, n0, d0, a1, n1, d1, a2, n2, d2, a3, n3, d3, a4, n4, d4, a5, n5, d5, rfl⟩ := LArg.shapes hry
        obtain ⟨ZA, ZB, ZP, ZQ, ZR, e0, m0, h0, e1, m1, h1, e2, m2, h2, e3, m3, h3, e4, m4, h4, e5, m5, h5, rfl⟩ := LArg.shapes hrz
        have hk0 : (0 : Int) ≤ (k : Int) := by omega
        have hk1 : (k : Int) < (n : Int) := by omega
        have HRY := Lib.hid (show LkA wr YP YQ YR (.slice a0 n0 d0) (.slice a1 n1 d1) (.slice a2 n2 d2) (.slice a3 n3 d3) (.slice a4 n4 d4) (.slice a5 n5 d5) from hry)
        have HRZ := Lib.hid (show LkA wr ZP ZQ ZR (.slice e0 m0 h0) (.slice e1 m1 h1) (.slice e2 m2 h2) (.slice e3 m3 h3) (.slice e4 m4 h4) (.slice e5 m5 h5) from hrz)
        obtain ⟨r, hr⟩ : ∃ q, sameK YA YB YP YQ YR ZA ZB ZP ZQ ZR = q := ⟨_, rfl⟩
        have HBAD := Lib.hid (show r = false → false = ans by intro h; rw [← HANS.out]; exact (sameD_bad (dts_at hy) (dts_at hz) (hr.trans h)).symm)
        have HGOOD := Lib.hid (show r = true → ∀ (j : Nat) (x y : Dt), j < k + 1 → (dts ys)[j]? = some x → (dts zs)[j]? = some y → sameDt x y = true by
          intro h j x y hj hx hy'
          by_cases e : j = k
          · subst e
            obtain rfl := Option.some.inj ((dts_at hy).symm.trans hx)
            obtain rfl := Option.some.inj ((dts_at hz).symm.trans hy')
            exact hr.trans h
          · exact HT.out j x y (by omega) hx hy')
        have HR := Lib.hid hr
        have c0 : wr.cell? ⟨g, o + k * 11, none⟩ = some (.int .i64 YA) := hcy 0 _ rfl
        have c1 : wr.cell? ⟨g, o + k * 11 + 1, none⟩ = some (.int .i64 YB) := hcy 1 _ rfl
        have c2 : wr.cell? ⟨g, o + k * 11 + 2, none⟩ = some (.bool YP.s) := hcy 2 _ rfl
        have c3 : wr.cell? ⟨g, o + k * 11 + 3, none⟩ = some ((.slice a0 n0 d0)) := hcy 3 _ rfl
        have c4 : wr.cell? ⟨g, o + k * 11 + 4, none⟩ = some ((.slice a1 n1 d1)) := hcy 4 _ rfl
        have c5 : wr.cell? ⟨g, o + k * 11 + 5, none⟩ = some (.bool YQ.s) := hcy 5 _ rfl
        have c6 : wr.cell? ⟨g, o + k * 11 + 6, none⟩ = some ((.slice a2 n2 d2)) := hcy 6 _ rfl
        have c7 : wr.cell? ⟨g, o + k * 11 + 7, none⟩ = some ((.slice a3 n3 d3)) := hcy 7 _ rfl
        have c8 : wr.cell? ⟨g, o + k * 11 + 8, none⟩ = some (.bool YR.s) := hcy 8 _ rfl
        have c9 : wr.cell? ⟨g, o + k * 11 + 9, none⟩ = some ((.slice a4 n4 d4)) := hcy 9 _ rfl
        have c10 : wr.cell? ⟨g, o + k * 11 + 10, none⟩ = some ((.slice a5 n5 d5)) := hcy 10 _ rfl
        have x0 : wr.cell? ⟨g', o' + k * 11, none⟩ = some (.int .i64 ZA) := hcz 0 _ rfl
        have x1 : wr.cell? ⟨g', o' + k * 11 + 1, none⟩ = some (.int .i64 ZB) := hcz 1 _ rfl
        have x2 : wr.cell? ⟨g', o' + k * 11 + 2, none⟩ = some (.bool ZP.s) := hcz 2 _ rfl
        have x3 : wr.cell? ⟨g', o' + k * 11 + 3, none⟩ = some ((.slice e0 m0 h0)) := hcz 3 _ rfl
        have x4 : wr.cell? ⟨g', o' + k * 11 + 4, none⟩ = some ((.slice e1 m1 h1)) := hcz 4 _ rfl
        have x5 : wr.cell? ⟨g', o' + k * 11 + 5, none⟩ = some (.bool ZQ.s) := hcz 5 _ rfl
        have x6 : wr.cell? ⟨g', o' + k * 11 + 6, none⟩ = some ((.slice e2 m2 h2)) := hcz 6 _ rfl
        have x7 : wr.cell? ⟨g', o' + k * 11 + 7, none⟩ = some ((.slice e3 m3 h3)) := hcz 7 _ rfl
        have x8 : wr.cell? ⟨g', o' + k * 11 + 8, none⟩ = some (.bool ZR.s) := hcz 8 _ rfl
        have x9 : wr.cell? ⟨g', o' + k * 11 + 9, none⟩ = some ((.slice e4 m4 h4)) := hcz 9 _ rfl
        have x10 : wr.cell? ⟨g', o' + k * 11 + 10, none⟩ = some ((.slice e5 m5 h5)) := hcz 10 _ rfl
        clear hy hz hry hrz hcy hcz hr
        go_wp2_with fail
        have B2 := Lib.hid (show Below wr.heap.size wr ((wr.alloc (.cells #[.int .i64 YA, .int .i64 YB, .bool YP.s, (.slice a0 n0 d0), (.slice a1 n1 d1), .bool YQ.s, (.slice a2 n2 d2), (.slice a3 n3 d3), .bool YR.s, (.slice a4 n4 d4), (.slice a5 n5 d5)] 39)).alloc (.cells #[.int .i64 ZA, .int .i64 ZB, .bool ZP.s, (.slice e0 m0 h0), (.slice e1 m1 h1), .bool ZQ.s, (.slice e2 m2 h2), (.slice e3 m3 h3), .bool ZR.s, (.slice e4 m4 h4), (.slice e5 m5 h5)] 39)) from ((Below.refl _ _).alloc (Nat.le_refl _) _).alloc (by simp) _)
        refine (sameLink_f YA YB YP YQ YR (.slice a0 n0 d0) (.slice a1 n1 d1) (.slice a2 n2 d2) (.slice a3 n3 d3) (.slice a4 n4 d4) (.slice a5 n5 d5) ZA ZB ZP ZQ ZR (.slice e0 m0 h0) (.slice e1 m1 h1) (.slice e2 m2 h2) (.slice e3 m3 h3) (.slice e4 m4 h4) (.slice e5 m5 h5) _ (HRY.out.below B2.out) (HRZ.out.below B2.out)).mono ?_
        rintro e w2 ⟨rfl, hb⟩
        rw [HR.out]
        have HW2 := Lib.hid ((HW.out.trans (B2.out.mono HW.out.size)).trans (hb.mono (HW.out.trans (B2.out.mono HW.out.size)).size))
        clear hb B2 c0 x0 c1 x1 c2 x2 c3 x3 c4 x4 c5 x5 c6 x6 c7 x7 c8 x8 c9 x9 c10 x10
        cases r with
        | false =>
          have HE := Lib.hid (HBAD.out rfl)
          go_wp2
          go_ret
          exact ⟨ret_bool HE.out, HW2.out⟩
        | true =>
          have HT2 := Lib.hid (HGOOD.out rfl)
          go_wp2
          exact ⟨⟨k + 1, by omega, by go_num, HT2.out, HW2.out⟩, by simp [intOf]; omega⟩
      · obtain rfl : k = n := by omega
        have HE := Lib.hid (show true = ans by rw [← HANS.out]; exact (sameD_all (HLA.out.trans HLB.out.symm) (fun j x y hx hy => HT.out j x y (by have := (List.getElem?_eq_some_iff.mp hx).1; have := HLA.out; omega) hx hy)).symm)
        go_wp2
        go_ret
        exact ⟨ret_bool HE.out, HW.out⟩
  · have HE := Lib.hid (show false = ans by rw [← HANS.out]; exact (sameD_len (by rw [HLA.out, HLB.out]; exact hnm)).symm)
    have hne : ((n : Int) != (m : Int)) = true := by simp; omega
    have hne2 : ¬ (n : Int) = (m : Int) := by omega
    go_enter Try.func29, Try.ntmps29
    go_wp2
    go_ret
    exact ⟨ret_bool HE.out, Below.refl _ _⟩
set_option maxRecDepth 100000 in
set_option maxHeartbeats 4000000 in
theorem sameLinks_i (A B : Option Addr) (n m c d : Nat) (ys zs : List Lr) (w : World) (hA : LArg w A n ys) (hB : LArg w B m zs) (hn : n ≤ 1048576) (hm : m ≤ 1048576) :
    Calls Try.prog 10 #[.slice A n c, .slice B m d] w fun e w' => e = .returned (.bool (sameD (dts ys) (dts zs))) ∧ Below w.heap.size w w' := by
  have HA := Lib.hid hA
  have HB := Lib.hid hB
  clear hA hB
  go_enter Try.func10, Try.ntmps10
  go_wp2_with fail
  refine (equalFunc_f A B n m c d ys zs _ HA.out HB.out hn hm).mono ?_
  rintro e w2 ⟨rfl, hb⟩
  have HW := Lib.hid hb
  clear hb
  go_wp2
  go_ret
  exact ⟨rfl, HW.out⟩
set_option maxRecDepth 100000 in
set_option maxHeartbeats 4000000 in
theorem sameLinks_s (A B : Option Addr) (n m c d : Nat) (ys zs : List Lr) (w : World) (hA : LArg w A n ys) (hB : LArg w B m zs) (hn : n ≤ 1048576) (hm : m ≤ 1048576) :
    Calls Try.prog 8 #[.slice A n c, .slice B m d] w fun e w' => e = .returned (.bool (sameD (dts ys) (dts zs))) ∧ Below w.heap.size w w' := by
  have HA := Lib.hid hA
  have HB := Lib.hid hB
  have HLA := Lib.hid (show (dts ys).length = n by have := hA.row.1; simpa [dts] using this)
  have HLB := Lib.hid (show (dts zs).length = m by have := hB.row.1; simpa [dts] using this)
  obtain ⟨ans, hans⟩ : ∃ z, sameD (dts ys) (dts zs) = z := ⟨_, rfl⟩
  rw [hans]
  have HANS := Lib.hid hans
  clear hA hB hans
  by_cases hnm : n = m
  · subst hnm
    go_enter Try.func8, Try.ntmps8
    go_wp2
    go_loopw [15] (fun i wr => ∃ k : Nat, k ≤ n ∧ i = .int .i64 k ∧ (∀ (j : Nat) (x y : Dt), j < k → (dts ys)[j]? = some x → (dts zs)[j]? = some y → sameDt x y = true) ∧ Below w.heap.size w wr) (fun i _ => n - (intOf i).toNat)
    case atStart => exact ⟨0, Nat.zero_le _, rfl, fun j x y hj => by omega, Below.refl _ _⟩
    case round =>
      obtain ⟨k, hk, rfl, hlt, hb⟩ := hrel
      have HT := Lib.hid hlt
      have HW := Lib.hid hb
      clear hlt hb
      by_cases hkn : k < n
      · obtain ⟨g, o, y, rfl, hg, hy, hry, hcy⟩ := (HA.out.below HW.out).at_ hkn
        obtain ⟨g', o', z, rfl, hg', hz, hrz, hcz⟩ := (HB.out.below HW.out).at_ hkn
        obtain ⟨YA, YB, YP, YQ, YR, a0, n0, d0, a1, n1, d1, a2, n2, d2, a3, n3, d3, a4, n4, d4, a5, n5, d5, rfl⟩ := LArg.shapes hry
        obtain ⟨ZA, ZB, ZP, ZQ, ZR, e0, m0, h0, e1, m1, h1, e2, m2, h2, e3, m3, h3, e4, m4, h4, e5, m5, h5, rfl⟩ := LArg.shapes hrz
        have hk0 : (0 : Int) ≤ (k : Int) := by omega
        have hk1 : (k : Int) < (n : Int) := by omega
        have HRY := Lib.hid (show LkA wr YP YQ YR (.slice a0 n0 d0) (.slice a1 n1 d1) (.slice a2 n2 d2) (.slice a3 n3 d3) (.slice a4 n4 d4) (.slice a5 n5 d5) from hry)
        have HRZ := Lib.hid (show LkA wr ZP ZQ ZR (.slice e0 m0 h0) (.slice e1 m1 h1) (.slice e2 m2 h2) (.slice e3 m3 h3) (.slice e4 m4 h4) (.slice e5 m5 h5) from hrz)
        obtain ⟨r, hr⟩ : ∃ q, sameK YA YB YP YQ YR ZA ZB ZP ZQ ZR = q := ⟨_, rfl⟩
        have HBAD := Lib.hid (show r = false → false = ans by intro h; rw [← HANS.out]; exact (sameD_bad (dts_at hy) (dts_at hz) (hr.trans h)).symm)
        have HGOOD := Lib.hid (show r = true → ∀ (j : Nat) (x y : Dt), j < k + 1 → (dts ys)[j]? = some x → (dts zs)[j]? = some y → sameDt x y = true by
          intro h j x y hj hx hy'
          by_cases e : j = k
          · subst e
            obtain rfl := Option.some.inj ((dts_at hy).symm.trans hx)
            obtain rfl := Option.some.inj ((dts_at hz).symm.trans hy')
            exact hr.trans h
          · exact HT.out j x y (by omega) hx hy')
        have HR := Lib.hid hr
        have c0 : wr.cell? ⟨g, o + k * 11, none⟩ = some (.int .i64 YA) := hcy 0 _ rfl
        have c1 : wr.cell? ⟨g, o + k * 11 + 1, none⟩ = some (.int .i64 YB) := hcy 1 _ rfl
        have c2 : wr.cell? ⟨g, o + k * 11 + 2, none⟩ = some (.bool YP.s) := hcy 2 _ rfl
        have c3 : wr.cell? ⟨g, o + k * 11 + 3, none⟩ = some ((.slice a0 n0 d0)) := hcy 3 _ rfl
        have c4 : wr.cell? ⟨g, o + k * 11 + 4, none⟩ = some ((.slice a1 n1 d1)) := hcy 4 _ rfl
        have c5 : wr.cell? ⟨g, o + k * 11 + 5, none⟩ = some (.bool YQ.s) := hcy 5 _ rfl
        have c6 : wr.cell? ⟨g, o + k * 11 + 6, none⟩ = some ((.slice a2 n2 d2)) := hcy 6 _ rfl
        have c7 : wr.cell? ⟨g, o + k * 11 + 7, none⟩ = some ((.slice a3 n3 d3)) := hcy 7 _ rfl
        have c8 : wr.cell? ⟨g, o + k * 11 + 8, none⟩ = some (.bool YR.s) := hcy 8 _ rfl
        have c9 : wr.cell? ⟨g, o + k * 11 + 9, none⟩ = some ((.slice a4 n4 d4)) := hcy 9 _ rfl
        have c10 : wr.cell? ⟨g, o + k * 11 + 10, none⟩ = some ((.slice a5 n5 d5)) := hcy 10 _ rfl
        have x0 : wr.cell? ⟨g', o' + k * 11, none⟩ = some (.int .i64 ZA) := hcz 0 _ rfl
        have x1 : wr.cell? ⟨g', o' + k * 11 + 1, none⟩ = some (.int .i64 ZB) := hcz 1 _ rfl
        have x2 : wr.cell? ⟨g', o' + k * 11 + 2, none⟩ = some (.bool ZP.s) := hcz 2 _ rfl
        have x3 : wr.cell? ⟨g', o' + k * 11 + 3, none⟩ = some ((.slice e0 m0 h0)) := hcz 3 _ rfl
        have x4 : wr.cell? ⟨g', o' + k * 11 + 4, none⟩ = some ((.slice e1 m1 h1)) := hcz 4 _ rfl
        have x5 : wr.cell? ⟨g', o' + k * 11 + 5, none⟩ = some (.bool ZQ.s) := hcz 5 _ rfl
        have x6 : wr.cell? ⟨g', o' + k * 11 + 6, none⟩ = some ((.slice e2 m2 h2)) := hcz 6 _ rfl
        have x7 : wr.cell? ⟨g', o' + k * 11 + 7, none⟩ = some ((.slice e3 m3 h3)) := hcz 7 _ rfl
        have x8 : wr.cell? ⟨g', o' + k * 11 + 8, none⟩ = some (.bool ZR.s) := hcz 8 _ rfl
        have x9 : wr.cell? ⟨g', o' + k * 11 + 9, none⟩ = some ((.slice e4 m4 h4)) := hcz 9 _ rfl
        have x10 : wr.cell? ⟨g', o' + k * 11 + 10, none⟩ = some ((.slice e5 m5 h5)) := hcz 10 _ rfl
        clear hy hz hry hrz hcy hcz hr
        have B2 := Lib.hid (show Below wr.heap.size wr ((wr.alloc (.cells #[.int .i64 YA, .int .i64 YB, .bool YP.s, (.slice a0 n0 d0), (.slice a1 n1 d1), .bool YQ.s, (.slice a2 n2 d2), (.slice a3 n3 d3), .bool YR.s, (.slice a4 n4 d4), (.slice a5 n5 d5)] 39)).alloc (.cells #[.int .i64 ZA, .int .i64 ZB, .bool ZP.s, (.slice e0 m0 h0), (.slice e1 m1 h1), .bool ZQ.s, (.slice e2 m2 h2), (.slice e3 m3 h3), .bool ZR.s, (.slice e4 m4 h4), (.slice e5 m5 h5)] 39)) from ((Below.refl _ _).alloc (Nat.le_refl _) _).alloc (by simp) _)
        have S_0 := Lib.hid (((St.start wr).alloc [.int .i64 YA, .int .i64 YB, .bool YP.s, (.slice a0 n0 d0), (.slice a1 n1 d1), .bool YQ.s, (.slice a2 n2 d2), (.slice a3 n3 d3), .bool YR.s, (.slice a4 n4 d4), (.slice a5 n5 d5)] 39).alloc_at (b := wr.heap.size + 1) [.int .i64 ZA, .int .i64 ZB, .bool ZP.s, (.slice e0 m0 h0), (.slice e1 m1 h1), .bool ZQ.s, (.slice e2 m2 h2), (.slice e3 m3 h3), .bool ZR.s, (.slice e4 m4 h4), (.slice e5 m5 h5)] 39 (by simp))
        by_cases e1 : YA = ZA
        · by_cases e2 : YB = ZB
          · subst e1 e2
            have g1 : (YA != YA) = false := by simp
            have g2 : (YB != YB) = false := by simp
            go_wp2_with fail
            refine (ratEqual_s YP ZP (.slice a0 n0 d0) (.slice a1 n1 d1) (.slice e0 m0 h0) (.slice e1 m1 h1) _ (HRY.out.below B2.out).p (HRZ.out.below B2.out).p).mono ?_
            rintro e w1 ⟨rfl, hb⟩
            obtain ⟨s1, hs1⟩ : ∃ q, YP.same ZP = q := ⟨_, rfl⟩
            rw [hs1]
            have HS1 := Lib.hid hs1
            have S_1 := Lib.hid (S_0.out.call hb)
            clear hb hs1 S_0 c0 x0 c1 x1 c2 x2 c3 x3 c4 x4 c5 x5 c6 x6 c7 x7 c8 x8 c9 x9 c10 x10 B2
            cases s1 with
            | false =>
              have k0_0 := S_1.out.cell 0 0 rfl rfl
              have k0_1 := S_1.out.cell 0 1 rfl rfl
              have k0_2 := S_1.out.cell 0 2 rfl rfl
              have k0_3 := S_1.out.cell 0 3 rfl rfl
              have k0_4 := S_1.out.cell 0 4 rfl rfl
              have k0_5 := S_1.out.cell 0 5 rfl rfl
              have k0_6 := S_1.out.cell 0 6 rfl rfl
              have k0_7 := S_1.out.cell 0 7 rfl rfl
              have k0_8 := S_1.out.cell 0 8 rfl rfl
              have k0_9 := S_1.out.cell 0 9 rfl rfl
              have k0_10 := S_1.out.cell 0 10 rfl rfl
              have k1_0 := S_1.out.cell 1 0 rfl rfl
              have k1_1 := S_1.out.cell 1 1 rfl rfl
              have k1_2 := S_1.out.cell 1 2 rfl rfl
              have k1_3 := S_1.out.cell 1 3 rfl rfl
              have k1_4 := S_1.out.cell 1 4 rfl rfl
              have k1_5 := S_1.out.cell 1 5 rfl rfl
              have k1_6 := S_1.out.cell 1 6 rfl rfl
              have k1_7 := S_1.out.cell 1 7 rfl rfl
              have k1_8 := S_1.out.cell 1 8 rfl rfl
              have k1_9 := S_1.out.cell 1 9 rfl rfl
              have k1_10 := S_1.out.cell 1 10 rfl rfl
              have HE := Lib.hid (HBAD.out (by rw [← HR.out]; unfold sameK; rw [HS1.out]; simp))
              go_wp2
              go_ret
              exact ⟨ret_bool HE.out, HW.out.trans (S_1.out.below.mono HW.out.size)⟩
            | true =>
              have k0_0 := S_1.out.cell 0 0 rfl rfl
              have k0_1 := S_1.out.cell 0 1 rfl rfl
              have k0_2 := S_1.out.cell 0 2 rfl rfl
              have k0_3 := S_1.out.cell 0 3 rfl rfl
              have k0_4 := S_1.out.cell 0 4 rfl rfl
              have k0_5 := S_1.out.cell 0 5 rfl rfl
              have k0_6 := S_1.out.cell 0 6 rfl rfl
              have k0_7 := S_1.out.cell 0 7 rfl rfl
              have k0_8 := S_1.out.cell 0 8 rfl rfl
              have k0_9 := S_1.out.cell 0 9 rfl rfl
              have k0_10 := S_1.out.cell 0 10 rfl rfl
              have k1_0 := S_1.out.cell 1 0 rfl rfl
              have k1_1 := S_1.out.cell 1 1 rfl rfl
              have k1_2 := S_1.out.cell 1 2 rfl rfl
              have k1_3 := S_1.out.cell 1 3 rfl rfl
              have k1_4 := S_1.out.cell 1 4 rfl rfl
              have k1_5 := S_1.out.cell 1 5 rfl rfl
              have k1_6 := S_1.out.cell 1 6 rfl rfl
              have k1_7 := S_1.out.cell 1 7 rfl rfl
              have k1_8 := S_1.out.cell 1 8 rfl rfl
              have k1_9 := S_1.out.cell 1 9 rfl rfl
              have k1_10 := S_1.out.cell 1 10 rfl rfl
              go_wp2_with fail
              refine (ratEqual_s YQ ZQ (.slice a2 n2 d2) (.slice a3 n3 d3) (.slice e2 m2 h2) (.slice e3 m3 h3) _ (HRY.out.below S_1.out.below).q (HRZ.out.below S_1.out.below).q).mono ?_
              rintro e w2 ⟨rfl, hb⟩
              obtain ⟨s2, hs2⟩ : ∃ q, YQ.same ZQ = q := ⟨_, rfl⟩
              rw [hs2]
              have HS2 := Lib.hid hs2
              have S_2 := Lib.hid (S_1.out.call hb)
              clear hb hs2 S_1 k0_0 k0_1 k0_2 k0_3 k0_4 k0_5 k0_6 k0_7 k0_8 k0_9 k0_10 k1_0 k1_1 k1_2 k1_3 k1_4 k1_5 k1_6 k1_7 k1_8 k1_9 k1_10
              cases s2 with
              | false =>
                have k0_0 := S_2.out.cell 0 0 rfl rfl
                have k0_1 := S_2.out.cell 0 1 rfl rfl
                have k0_2 := S_2.out.cell 0 2 rfl rfl
                have k0_3 := S_2.out.cell 0 3 rfl rfl
                have k0_4 := S_2.out.cell 0 4 rfl rfl
                have k0_5 := S_2.out.cell 0 5 rfl rfl
                have k0_6 := S_2.out.cell 0 6 rfl rfl
                have k0_7 := S_2.out.cell 0 7 rfl rfl
                have k0_8 := S_2.out.cell 0 8 rfl rfl
                have k0_9 := S_2.out.cell 0 9 rfl rfl
                have k0_10 := S_2.out.cell 0 10 rfl rfl
                have k1_0 := S_2.out.cell 1 0 rfl rfl
                have k1_1 := S_2.out.cell 1 1 rfl rfl
                have k1_2 := S_2.out.cell 1 2 rfl rfl
                have k1_3 := S_2.out.cell 1 3 rfl rfl
                have k1_4 := S_2.out.cell 1 4 rfl rfl
                have k1_5 := S_2.out.cell 1 5 rfl rfl
                have k1_6 := S_2.out.cell 1 6 rfl rfl
                have k1_7 := S_2.out.cell 1 7 rfl rfl
                have k1_8 := S_2.out.cell 1 8 rfl rfl
                have k1_9 := S_2.out.cell 1 9 rfl rfl
                have k1_10 := S_2.out.cell 1 10 rfl rfl
                have HE := Lib.hid (HBAD.out (by rw [← HR.out]; unfold sameK; rw [HS2.out]; simp))
                go_wp2
                go_ret
                exact ⟨ret_bool HE.out, HW.out.trans (S_2.out.below.mono HW.out.size)⟩
              | true =>
                have k0_0 := S_2.out.cell 0 0 rfl rfl
                have k0_1 := S_2.out.cell 0 1 rfl rfl
                have k0_2 := S_2.out.cell 0 2 rfl rfl
                have k0_3 := S_2.out.cell 0 3 rfl rfl
                have k0_4 := S_2.out.cell 0 4 rfl rfl
                have k0_5 := S_2.out.cell 0 5 rfl rfl
                have k0_6 := S_2.out.cell 0 6 rfl rfl
                have k0_7 := S_2.out.cell 0 7 rfl rfl
                have k0_8 := S_2.out.cell 0 8 rfl rfl
                have k0_9 := S_2.out.cell 0 9 rfl rfl
                have k0_10 := S_2.out.cell 0 10 rfl rfl
                have k1_0 := S_2.out.cell 1 0 rfl rfl
                have k1_1 := S_2.out.cell 1 1 rfl rfl
                have k1_2 := S_2.out.cell 1 2 rfl rfl
                have k1_3 := S_2.out.cell 1 3 rfl rfl
                have k1_4 := S_2.out.cell 1 4 rfl rfl
                have k1_5 := S_2.out.cell 1 5 rfl rfl
                have k1_6 := S_2.out.cell 1 6 rfl rfl
                have k1_7 := S_2.out.cell 1 7 rfl rfl
                have k1_8 := S_2.out.cell 1 8 rfl rfl
                have k1_9 := S_2.out.cell 1 9 rfl rfl
                have k1_10 := S_2.out.cell 1 10 rfl rfl
                go_wp2_with fail
                refine (ratEqual_s YR ZR (.slice a4 n4 d4) (.slice a5 n5 d5) (.slice e4 m4 h4) (.slice e5 m5 h5) _ (HRY.out.below S_2.out.below).r (HRZ.out.below S_2.out.below).r).mono ?_
                rintro e w3 ⟨rfl, hb⟩
                obtain ⟨s3, hs3⟩ : ∃ q, YR.same ZR = q := ⟨_, rfl⟩
                rw [hs3]
                have HS3 := Lib.hid hs3
                have S_3 := Lib.hid (S_2.out.call hb)
                clear hb hs3 S_2 k0_0 k0_1 k0_2 k0_3 k0_4 k0_5 k0_6 k0_7 k0_8 k0_9 k0_10 k1_0 k1_1 k1_2 k1_3 k1_4 k1_5 k1_6 k1_7 k1_8 k1_9 k1_10
                cases s3 with
                | false =>
                  have k0_0 := S_3.out.cell 0 0 rfl rfl
                  have k0_1 := S_3.out.cell 0 1 rfl rfl
                  have k0_2 := S_3.out.cell 0 2 rfl rfl
                  have k0_3 := S_3.out.cell 0 3 rfl rfl
                  have k0_4 := S_3.out.cell 0 4 rfl rfl
                  have k0_5 := S_3.out.cell 0 5 rfl rfl
                  have k0_6 := S_3.out.cell 0 6 rfl rfl
                  have k0_7 := S_3.out.cell 0 7 rfl rfl
                  have k0_8 := S_3.out.cell 0 8 rfl rfl
                  have k0_9 := S_3.out.cell 0 9 rfl rfl
                  have k0_10 := S_3.out.cell 0 10 rfl rfl
                  have k1_0 := S_3.out.cell 1 0 rfl rfl
                  have k1_1 := S_3.out.cell 1 1 rfl rfl
                  have k1_2 := S_3.out.cell 1 2 rfl rfl
                  have k1_3 := S_3.out.cell 1 3 rfl rfl
                  have k1_4 := S_3.out.cell 1 4 rfl rfl
                  have k1_5 := S_3.out.cell 1 5 rfl rfl
                  have k1_6 := S_3.out.cell 1 6 rfl rfl
                  have k1_7 := S_3.out.cell 1 7 rfl rfl
                  have k1_8 := S_3.out.cell 1 8 rfl rfl
                  have k1_9 := S_3.out.cell 1 9 rfl rfl
                  have k1_10 := S_3.out.cell 1 10 rfl rfl
                  have HE := Lib.hid (HBAD.out (by rw [← HR.out]; unfold sameK; rw [HS3.out]; simp))
                  go_wp2
                  go_ret
                  exact ⟨ret_bool HE.out, HW.out.trans (S_3.out.below.mono HW.out.size)⟩
                | true =>
                  have HT2 := Lib.hid (HGOOD.out (by rw [← HR.out]; unfold sameK; rw [HS1.out, HS2.out, HS3.out]; simp))
                  have HW2 := Lib.hid (HW.out.trans (S_3.out.below.mono HW.out.size))
                  go_wp2
                  exact ⟨⟨k + 1, by omega, by go_num, HT2.out, HW2.out⟩, by simp [intOf]; omega⟩
          · have g1 : (YA != ZA) = false := by simp [e1]
            have g2 : (YB != ZB) = true := by simpa using e2
            have HE := Lib.hid (HBAD.out (by rw [← HR.out]; unfold sameK; rw [decide_eq_false e2]; simp))
            subst e1
            clear e2
            go_wp2
            go_ret
            exact ⟨ret_bool HE.out, HW.out.trans (B2.out.mono HW.out.size)⟩
        · have g1 : (YA != ZA) = true := by simpa using e1
          have HE := Lib.hid (HBAD.out (by rw [← HR.out]; unfold sameK; rw [decide_eq_false e1]; rfl))
          clear e1
          go_wp2
          go_ret
          exact ⟨ret_bool HE.out, HW.out.trans (B2.out.mono HW.out.size)⟩
      · obtain rfl : k = n := by omega
        have HE := Lib.hid (show true = ans by rw [← HANS.out]; exact (sameD_all (HLA.out.trans HLB.out.symm) (fun j x y hx hy => HT.out j x y (by have := (List.getElem?_eq_some_iff.mp hx).1; have := HLA.out; omega) hx hy)).symm)
        go_wp2
        go_ret
        exact ⟨ret_bool HE.out, HW.out⟩
  · have HE := Lib.hid (show false = ans by rw [← HANS.out]; exact (sameD_len (by rw [HLA.out, HLB.out]; exact hnm)).symm)
    have hne : ((n : Int) != (m : Int)) = true := by simp; omega
    have hne2 : ¬ (n : Int) = (m : Int) := by omega
    go_enter Try.func8, Try.ntmps8
    go_wp2
    go_ret
    exact ⟨ret_bool HE.out, Below.refl _ _⟩
end Go.Proofs.Ytkhkkaobooednaa
