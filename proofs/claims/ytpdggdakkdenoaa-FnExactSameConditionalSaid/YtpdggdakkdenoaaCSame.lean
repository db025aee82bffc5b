/- SameConditional of both sides. Conditions: none. -/
import Derived.Test.YtpdggdakkdenoaaCondI
namespace Go.Proofs.Ytpdggdakkdenoaa
open Go.RowKit Nt Fr
set_option linter.unusedVariables false

/-- Are two parents the same? -/
def samePa (A : Int) (P Q R : Fr) (B : Int) (V U T : Fr) : Bool := decide (A = B) && (P.same V && (Q.same U && R.same T))
def sameDa (x y : Da) : Bool := samePa (paNode x) (paShare x) (paX x) (paY x) (paNode y) (paShare y) (paX y) (paY y)
def sameDas : List Da → List Da → Bool
  | [], [] => true
  | x :: r, y :: s => sameDa x y && sameDas r s
  | _, _ => false
def sameC (N : Int) (T : Fr) (a : List Da) (M : Int) (U : Fr) (b : List Da) : Bool := decide (N = M) && (T.same U && sameDas a b)
theorem sameDas_len {a b : List Da} (h : a.length ≠ b.length) : sameDas a b = false := by
  induction a generalizing b with
  | nil => cases b with
    | nil => exact absurd rfl h
    | cons y s => rfl
  | cons x r ih => cases b with
    | nil => rfl
    | cons y s => simp only [sameDas, ih (b := s) (by simpa using h), Bool.and_false]
theorem sameDas_bad {a b : List Da} {k : Nat} {x y : Da} (h1 : a[k]? = some x) (h2 : b[k]? = some y) (h : sameDa x y = false) : sameDas a b = false := by
  induction a generalizing b k with
  | nil => simp at h1
  | cons u r ih => cases b with
    | nil => rfl
    | cons v s => cases k with
      | zero => simp at h1 h2; subst h1 h2; simp [sameDas, h]
      | succ k => simp at h1 h2; simp [sameDas, ih h1 h2]
theorem sameDas_all {a b : List Da} (hl : a.length = b.length) (h : ∀ (k : Nat) (x y : Da), a[k]? = some x → b[k]? = some y → sameDa x y = true) : sameDas a b = true := by
  induction a generalizing b with
  | nil => cases b with
    | nil => rfl
    | cons y s => simp at hl
  | cons x r ih => cases b with
    | nil => simp at hl
    | cons y s => simp only [sameDas, h 0 x y rfl rfl, Bool.true_and]; exact ih (by simpa using hl) (fun k u v hu hv => h (k + 1) u v (by simpa using hu) (by simpa using hv))
set_option maxRecDepth 100000 in
set_option maxHeartbeats 4000000 in
theorem sameParent_f (A : Int) (P Q R : Fr) (y0 y1 y2 y3 y4 y5 : Value) (B : Int) (V U T : Fr) (z0 z1 z2 z3 z4 z5 : Value) (w : World) (hL0 : FrA w P y0 y1) (hL1 : FrA w Q y2 y3) (hL2 : FrA w R y4 y5) (hM0 : FrA w V z0 z1) (hM1 : FrA w U z2 z3) (hM2 : FrA w T z4 z5) :
    Calls Try.prog 16 #[.agg #[.int .i64 A, .bool P.s, y0, y1, .bool Q.s, y2, y3, .bool R.s, y4, y5], .agg #[.int .i64 B, .bool V.s, z0, z1, .bool U.s, z2, z3, .bool T.s, z4, z5]] w fun e w' => e = .returned (.bool (samePa A P Q R B V U T)) ∧ Below w.heap.size w w' := by
  have HL0 := Lib.hid hL0
  have HM0 := Lib.hid hM0
  have HL1 := Lib.hid hL1
  have HM1 := Lib.hid hM1
  have HL2 := Lib.hid hL2
  have HM2 := Lib.hid hM2
  clear hL0 hL1 hL2 hM0 hM1 hM2
  obtain ⟨s1, hs1⟩ : ∃ z, P.same V = z := ⟨_, rfl⟩
  obtain ⟨s2, hs2⟩ : ∃ z, Q.same U = z := ⟨_, rfl⟩
  obtain ⟨s3, hs3⟩ : ∃ z, R.same T = z := ⟨_, rfl⟩
  obtain ⟨ans, hans⟩ : ∃ z, samePa A P Q R B V U T = z := ⟨_, rfl⟩
  have HN := Lib.hid (show ¬ A = B → false = ans by intro h; rw [← hans]; unfold samePa; rw [decide_eq_false h]; rfl)
  have HY := Lib.hid (show A = B → (s1 && (s2 && s3)) = ans by intro h; rw [← hans, ← hs1, ← hs2, ← hs3]; unfold samePa; rw [decide_eq_true h]; rfl)
  rw [hans]
  have H1 := Lib.hid hs1
  have H2 := Lib.hid hs2
  have H3 := Lib.hid hs3
  clear hs1 hs2 hs3 hans
  have S_1 := Lib.hid (show St w ((w.alloc (.cells #[.int .i64 A, .bool P.s, y0, y1, .bool Q.s, y2, y3, .bool R.s, y4, y5] 44)).alloc (.cells #[.int .i64 B, .bool V.s, z0, z1, .bool U.s, z2, z3, .bool T.s, z4, z5] 44)) [(w.heap.size + 1, [.int .i64 B, .bool V.s, z0, z1, .bool U.s, z2, z3, .bool T.s, z4, z5]), (w.heap.size, [.int .i64 A, .bool P.s, y0, y1, .bool Q.s, y2, y3, .bool R.s, y4, y5])] [] from (((St.start w).alloc_at (b := w.heap.size) [.int .i64 A, .bool P.s, y0, y1, .bool Q.s, y2, y3, .bool R.s, y4, y5] 44 (by first | rfl | simp)).alloc_at (b := w.heap.size + 1) [.int .i64 B, .bool V.s, z0, z1, .bool U.s, z2, z3, .bool T.s, z4, z5] 44 (by first | rfl | simp)))
  have hne_b_a : w.heap.size + 1 ≠ w.heap.size := by omega
  have hne_a_b : w.heap.size ≠ w.heap.size + 1 := by omega
  by_cases h0 : A = B
  · have HE := Lib.hid (HY.out h0)
    subst h0
    go_enter Try.func16, Try.ntmps16
    go_wp2_with fail
    refine (ratEqual_i P V y0 y1 z0 z1 _ (S_1.out.frA HL0.out) (S_1.out.frA HM0.out)).mono ?_
    rintro e w1 ⟨rfl, hb⟩
    have S_2 := Lib.hid (S_1.out.call hb)
    clear S_1
    clear hb
    rw [H1.out]
    by_cases g1 : s1 = true
    · subst g1
      have hk_a_0_2 := S_2.out.cell 1 0 rfl rfl
      have hk_a_1_2 := S_2.out.cell 1 1 rfl rfl
      have hk_a_2_2 := S_2.out.cell 1 2 rfl rfl
      have hk_a_3_2 := S_2.out.cell 1 3 rfl rfl
      have hk_a_4_2 := S_2.out.cell 1 4 rfl rfl
      have hk_a_5_2 := S_2.out.cell 1 5 rfl rfl
      have hk_a_6_2 := S_2.out.cell 1 6 rfl rfl
      have hk_a_7_2 := S_2.out.cell 1 7 rfl rfl
      have hk_a_8_2 := S_2.out.cell 1 8 rfl rfl
      have hk_a_9_2 := S_2.out.cell 1 9 rfl rfl
      have hk_b_0_2 := S_2.out.cell 0 0 rfl rfl
      have hk_b_1_2 := S_2.out.cell 0 1 rfl rfl
      have hk_b_2_2 := S_2.out.cell 0 2 rfl rfl
      have hk_b_3_2 := S_2.out.cell 0 3 rfl rfl
      have hk_b_4_2 := S_2.out.cell 0 4 rfl rfl
      have hk_b_5_2 := S_2.out.cell 0 5 rfl rfl
      have hk_b_6_2 := S_2.out.cell 0 6 rfl rfl
      have hk_b_7_2 := S_2.out.cell 0 7 rfl rfl
      have hk_b_8_2 := S_2.out.cell 0 8 rfl rfl
      have hk_b_9_2 := S_2.out.cell 0 9 rfl rfl
      go_wp2_with fail
      refine (ratEqual_i Q U y2 y3 z2 z3 _ (S_2.out.frA HL1.out) (S_2.out.frA HM1.out)).mono ?_
      rintro e w2 ⟨rfl, hb⟩
      have S_3 := Lib.hid (S_2.out.call hb)
      clear S_2
      clear hb
      rw [H2.out]
      clear hk_a_0_2 hk_a_1_2 hk_a_2_2 hk_a_3_2 hk_a_4_2 hk_a_5_2 hk_a_6_2 hk_a_7_2 hk_a_8_2 hk_a_9_2 hk_b_0_2 hk_b_1_2 hk_b_2_2 hk_b_3_2 hk_b_4_2 hk_b_5_2 hk_b_6_2 hk_b_7_2 hk_b_8_2 hk_b_9_2
      by_cases g2 : s2 = true
      · subst g2
        have hk_a_0_3 := S_3.out.cell 1 0 rfl rfl
        have hk_a_1_3 := S_3.out.cell 1 1 rfl rfl
        have hk_a_2_3 := S_3.out.cell 1 2 rfl rfl
        have hk_a_3_3 := S_3.out.cell 1 3 rfl rfl
        have hk_a_4_3 := S_3.out.cell 1 4 rfl rfl
        have hk_a_5_3 := S_3.out.cell 1 5 rfl rfl
        have hk_a_6_3 := S_3.out.cell 1 6 rfl rfl
        have hk_a_7_3 := S_3.out.cell 1 7 rfl rfl
        have hk_a_8_3 := S_3.out.cell 1 8 rfl rfl
        have hk_a_9_3 := S_3.out.cell 1 9 rfl rfl
        have hk_b_0_3 := S_3.out.cell 0 0 rfl rfl
        have hk_b_1_3 := S_3.out.cell 0 1 rfl rfl
        have hk_b_2_3 := S_3.out.cell 0 2 rfl rfl
        have hk_b_3_3 := S_3.out.cell 0 3 rfl rfl
        have hk_b_4_3 := S_3.out.cell 0 4 rfl rfl
        have hk_b_5_3 := S_3.out.cell 0 5 rfl rfl
        have hk_b_6_3 := S_3.out.cell 0 6 rfl rfl
        have hk_b_7_3 := S_3.out.cell 0 7 rfl rfl
        have hk_b_8_3 := S_3.out.cell 0 8 rfl rfl
        have hk_b_9_3 := S_3.out.cell 0 9 rfl rfl
        go_wp2_with fail
        refine (ratEqual_i R T y4 y5 z4 z5 _ (S_3.out.frA HL2.out) (S_3.out.frA HM2.out)).mono ?_
        rintro e w3 ⟨rfl, hb⟩
        have S_4 := Lib.hid (S_3.out.call hb)
        clear S_3
        clear hb
        rw [H3.out]
        clear hk_a_0_3 hk_a_1_3 hk_a_2_3 hk_a_3_3 hk_a_4_3 hk_a_5_3 hk_a_6_3 hk_a_7_3 hk_a_8_3 hk_a_9_3 hk_b_0_3 hk_b_1_3 hk_b_2_3 hk_b_3_3 hk_b_4_3 hk_b_5_3 hk_b_6_3 hk_b_7_3 hk_b_8_3 hk_b_9_3
        go_wp2
        all_goals go_ret
        all_goals exact ret_b (by rw [← HE.out]; rfl) S_4.out.below
      · rw [Bool.not_eq_true] at g2
        subst g2
        go_wp2
        all_goals go_ret
        all_goals exact ret_b (by rw [← HE.out]; rfl) S_3.out.below
    · rw [Bool.not_eq_true] at g1
      subst g1
      go_wp2
      all_goals go_ret
      all_goals exact ret_b (by rw [← HE.out]; rfl) S_2.out.below
  · have hq2 : (A == B) = false := by simpa using h0
    have HE := Lib.hid (HN.out h0)
    go_enter Try.func16, Try.ntmps16
    go_wp2
    all_goals go_ret
    all_goals exact ret_b HE.out S_1.out.below
set_option maxRecDepth 100000 in
set_option maxHeartbeats 4000000 in
theorem equalFuncPa_f (A B : Option Addr) (n m c d : Nat) (ys zs : List Rc) (w : World) (hA : PaArg w A n ys) (hB : PaArg w B m zs) (hn : n ≤ 1048576) (hm : m ≤ 1048576) :
    Calls Try.prog 15 #[.slice A n c, .slice B m d, .func (.func 16) #[] #[]] w fun e w' => e = .returned (.bool (sameDas (dats ys) (dats zs))) ∧ Below w.heap.size w w' := by
  have HA := Lib.hid hA
  have HB := Lib.hid hB
  have HLA := Lib.hid (show (dats ys).length = n by rw [dats_len]; exact hA.row.len)
  have HLB := Lib.hid (show (dats zs).length = m by rw [dats_len]; exact hB.row.len)
  clear hA hB
  by_cases hnm : n = m
  · subst hnm
    go_enter Try.func15, Try.ntmps15
    go_wp2
    go_loopw [17] (fun i wr => ∃ k : Nat, k ≤ n ∧ i = .int .i64 k ∧ (∀ (j : Nat) (x y : Da), j < k → (dats ys)[j]? = some x → (dats zs)[j]? = some y → sameDa x y = true) ∧ Below w.heap.size w wr) (fun i _ => n - (intOf i).toNat)
    case atStart => exact ⟨0, Nat.zero_le _, rfl, fun j x y hj => by omega, Below.refl _ _⟩
    case round =>
      obtain ⟨k, hk, rfl, hlt, hb⟩ := hrel
      have HT := Lib.hid hlt
      have HW := Lib.hid hb
      clear hlt hb
      by_cases hkn : k < n
      · obtain ⟨g, o, y, rfl, hg, hy, hry, hsy, hcy⟩ := (HA.out.below HW.out).at_ hkn
        obtain ⟨g', o', z, rfl, hg', hz, hrz, hsz, hcz⟩ := (HB.out.below HW.out).at_ hkn
        obtain ⟨YA, YP, YQ, YR, a0, n0, d0, a1, n1, d1, a2, n2, d2, a3, n3, d3, a4, n4, d4, a5, n5, d5, rfl⟩ := Rc.shapes13 hsy hry
        obtain ⟨ZA, ZP, ZQ, ZR, e0, m0, h0, e1, m1, h1, e2, m2, h2, e3, m3, h3, e4, m4, h4, e5, m5, h5, rfl⟩ := Rc.shapes13 hsz hrz
        have hk0 : (0 : Int) ≤ (k : Int) := by omega
        have hk1 : (k : Int) < (n : Int) := by omega
        have HRY := Lib.hid hry
        have HRZ := Lib.hid hrz
        obtain ⟨r, hr⟩ : ∃ q, samePa YA YP YQ YR ZA ZP ZQ ZR = q := ⟨_, rfl⟩
        have HBAD := Lib.hid (show r = false → sameDas (dats ys) (dats zs) = false by intro h; exact sameDas_bad (dats_get hy) (dats_get hz) (show samePa YA YP YQ YR ZA ZP ZQ ZR = false from hr.trans h))
        have HGOOD := Lib.hid (show r = true → ∀ (j : Nat) (x y : Da), j < k + 1 → (dats ys)[j]? = some x → (dats zs)[j]? = some y → sameDa x y = true by
          intro h j x y hj hx hy'
          by_cases e : j = k
          · subst e
            obtain rfl := Option.some.inj ((dats_get hy).symm.trans hx)
            obtain rfl := Option.some.inj ((dats_get hz).symm.trans hy')
            exact (show samePa YA YP YQ YR ZA ZP ZQ ZR = true from hr.trans h)
          · exact HT.out j x y (by omega) hx hy')
        have HR := Lib.hid hr
        have c0 : wr.cell? ⟨g, o + k * 10, none⟩ = some (.int .i64 YA) := hcy 0 _ rfl
        have c1 : wr.cell? ⟨g, o + k * 10 + 1, none⟩ = some (.bool YP.s) := hcy 1 _ rfl
        have c2 : wr.cell? ⟨g, o + k * 10 + 2, none⟩ = some ((.slice a0 n0 d0)) := hcy 2 _ rfl
        have c3 : wr.cell? ⟨g, o + k * 10 + 3, none⟩ = some ((.slice a1 n1 d1)) := hcy 3 _ rfl
        have c4 : wr.cell? ⟨g, o + k * 10 + 4, none⟩ = some (.bool YQ.s) := hcy 4 _ rfl
        have c5 : wr.cell? ⟨g, o + k * 10 + 5, none⟩ = some ((.slice a2 n2 d2)) := hcy 5 _ rfl
        have c6 : wr.cell? ⟨g, o + k * 10 + 6, none⟩ = some ((.slice a3 n3 d3)) := hcy 6 _ rfl
        have c7 : wr.cell? ⟨g, o + k * 10 + 7, none⟩ = some (.bool YR.s) := hcy 7 _ rfl
        have c8 : wr.cell? ⟨g, o + k * 10 + 8, none⟩ = some ((.slice a4 n4 d4)) := hcy 8 _ rfl
        have c9 : wr.cell? ⟨g, o + k * 10 + 9, none⟩ = some ((.slice a5 n5 d5)) := hcy 9 _ rfl
        have x0 : wr.cell? ⟨g', o' + k * 10, none⟩ = some (.int .i64 ZA) := hcz 0 _ rfl
        have x1 : wr.cell? ⟨g', o' + k * 10 + 1, none⟩ = some (.bool ZP.s) := hcz 1 _ rfl
        have x2 : wr.cell? ⟨g', o' + k * 10 + 2, none⟩ = some ((.slice e0 m0 h0)) := hcz 2 _ rfl
        have x3 : wr.cell? ⟨g', o' + k * 10 + 3, none⟩ = some ((.slice e1 m1 h1)) := hcz 3 _ rfl
        have x4 : wr.cell? ⟨g', o' + k * 10 + 4, none⟩ = some (.bool ZQ.s) := hcz 4 _ rfl
        have x5 : wr.cell? ⟨g', o' + k * 10 + 5, none⟩ = some ((.slice e2 m2 h2)) := hcz 5 _ rfl
        have x6 : wr.cell? ⟨g', o' + k * 10 + 6, none⟩ = some ((.slice e3 m3 h3)) := hcz 6 _ rfl
        have x7 : wr.cell? ⟨g', o' + k * 10 + 7, none⟩ = some (.bool ZR.s) := hcz 7 _ rfl
        have x8 : wr.cell? ⟨g', o' + k * 10 + 8, none⟩ = some ((.slice e4 m4 h4)) := hcz 8 _ rfl
        have x9 : wr.cell? ⟨g', o' + k * 10 + 9, none⟩ = some ((.slice e5 m5 h5)) := hcz 9 _ rfl
        clear hy hz hry hrz hcy hcz hr hsy hsz
        go_wp2_with fail
        have B2 := Lib.hid (show Below wr.heap.size wr ((wr.alloc (.cells #[.int .i64 YA, .bool YP.s, (.slice a0 n0 d0), (.slice a1 n1 d1), .bool YQ.s, (.slice a2 n2 d2), (.slice a3 n3 d3), .bool YR.s, (.slice a4 n4 d4), (.slice a5 n5 d5)] 44)).alloc (.cells #[.int .i64 ZA, .bool ZP.s, (.slice e0 m0 h0), (.slice e1 m1 h1), .bool ZQ.s, (.slice e2 m2 h2), (.slice e3 m3 h3), .bool ZR.s, (.slice e4 m4 h4), (.slice e5 m5 h5)] 44)) from ((Below.refl _ _).alloc (Nat.le_refl _) _).alloc (by simp) _)
        refine (sameParent_f YA YP YQ YR (.slice a0 n0 d0) (.slice a1 n1 d1) (.slice a2 n2 d2) (.slice a3 n3 d3) (.slice a4 n4 d4) (.slice a5 n5 d5) ZA ZP ZQ ZR (.slice e0 m0 h0) (.slice e1 m1 h1) (.slice e2 m2 h2) (.slice e3 m3 h3) (.slice e4 m4 h4) (.slice e5 m5 h5) _ (HRY.out.below B2.out (YP, .slice a0 n0 d0, .slice a1 n1 d1) (by simp)) (HRY.out.below B2.out (YQ, .slice a2 n2 d2, .slice a3 n3 d3) (by simp)) (HRY.out.below B2.out (YR, .slice a4 n4 d4, .slice a5 n5 d5) (by simp)) (HRZ.out.below B2.out (ZP, .slice e0 m0 h0, .slice e1 m1 h1) (by simp)) (HRZ.out.below B2.out (ZQ, .slice e2 m2 h2, .slice e3 m3 h3) (by simp)) (HRZ.out.below B2.out (ZR, .slice e4 m4 h4, .slice e5 m5 h5) (by simp))).mono ?_
        rintro e w2 ⟨rfl, hb⟩
        rw [HR.out]
        have HW2 := Lib.hid ((HW.out.trans (B2.out.mono HW.out.size)).trans (hb.mono (HW.out.trans (B2.out.mono HW.out.size)).size))
        clear hb B2 c0 x0 c1 x1 c2 x2 c3 x3 c4 x4 c5 x5 c6 x6 c7 x7 c8 x8 c9 x9
        cases r with
        | false =>
          have HE := Lib.hid (HBAD.out rfl)
          go_wp2
          go_ret
          exact ⟨ret_bool HE.out.symm, HW2.out⟩
        | true =>
          have HT2 := Lib.hid (HGOOD.out rfl)
          go_wp2
          exact ⟨⟨k + 1, by omega, by go_num, HT2.out, HW2.out⟩, by simp [intOf]; omega⟩
      · obtain rfl : k = n := by omega
        have HE := Lib.hid (show true = sameDas (dats ys) (dats zs) from (sameDas_all (HLA.out.trans HLB.out.symm) (fun j x y hx hy => HT.out j x y (by have := (List.getElem?_eq_some_iff.mp hx).1; have := HLA.out; omega) hx hy)).symm)
        go_wp2
        go_ret
        exact ⟨ret_bool HE.out, HW.out⟩
  · have HE := Lib.hid (show false = sameDas (dats ys) (dats zs) from (sameDas_len (by rw [HLA.out, HLB.out]; exact hnm)).symm)
    have hne : ((n : Int) != (m : Int)) = true := by simp; omega
    have hne2 : ¬ (n : Int) = (m : Int) := by omega
    go_enter Try.func15, Try.ntmps15
    go_wp2
    go_ret
    exact ⟨ret_bool HE.out, Below.refl _ _⟩
set_option maxRecDepth 100000 in
set_option maxHeartbeats 4000000 in
theorem sameConditional_i (N : Int) (T : Fr) (t0 t1 : Value) (A : Option Addr) (n c : Nat) (ys : List Rc) (M : Int) (U : Fr) (u0 u1 : Value) (B : Option Addr) (m d : Nat) (zs : List Rc) (w : World) (hT : FrA w T t0 t1) (hU : FrA w U u0 u1) (hA : PaArg w A n ys) (hB : PaArg w B m zs) (hn : n ≤ 1048576) (hm : m ≤ 1048576) :
    Calls Try.prog 7 #[.agg #[.int .i64 N, .bool T.s, t0, t1, (.slice A n c)], .agg #[.int .i64 M, .bool U.s, u0, u1, (.slice B m d)]] w fun e w' => e = .returned (.bool (sameC N T (dats ys) M U (dats zs))) ∧ Below w.heap.size w w' := by
  have HT := Lib.hid hT
  have HU := Lib.hid hU
  have HA := Lib.hid hA
  have HB := Lib.hid hB
  obtain ⟨ans, hans⟩ : ∃ z, sameC N T (dats ys) M U (dats zs) = z := ⟨_, rfl⟩
  rw [hans]
  obtain ⟨s1, hs1⟩ : ∃ z, T.same U = z := ⟨_, rfl⟩
  have H1 := Lib.hid hs1
  have HN := Lib.hid (show ¬ N = M → false = ans by intro h; rw [← hans]; unfold sameC; rw [decide_eq_false h]; rfl)
  have HF := Lib.hid (show s1 = false → false = ans by intro h; rw [← hans]; unfold sameC; rw [hs1, h]; simp)
  have HY := Lib.hid (show N = M → s1 = true → sameDas (dats ys) (dats zs) = ans by intro h g; rw [← hans]; unfold sameC; rw [hs1, g, decide_eq_true h]; rfl)
  clear hT hU hA hB hans hs1
  have S_1 := Lib.hid (show St w ((w.alloc (.cells #[.int .i64 N, .bool T.s, t0, t1, (.slice A n c)] 37)).alloc (.cells #[.int .i64 M, .bool U.s, u0, u1, (.slice B m d)] 37)) [(w.heap.size + 1, [.int .i64 M, .bool U.s, u0, u1, (.slice B m d)]), (w.heap.size, [.int .i64 N, .bool T.s, t0, t1, (.slice A n c)])] [] from (((St.start w).alloc_at (b := w.heap.size) [.int .i64 N, .bool T.s, t0, t1, (.slice A n c)] 37 (by first | rfl | simp)).alloc_at (b := w.heap.size + 1) [.int .i64 M, .bool U.s, u0, u1, (.slice B m d)] 37 (by first | rfl | simp)))
  have hne_b_a : w.heap.size + 1 ≠ w.heap.size := by omega
  have hne_a_b : w.heap.size ≠ w.heap.size + 1 := by omega
  by_cases h0 : N = M
  · have HYY := Lib.hid (HY.out h0)
    subst h0
    go_enter Try.func7, Try.ntmps7
    go_wp2_with fail
    refine (ratEqual_i T U t0 t1 u0 u1 _ (S_1.out.frA HT.out) (S_1.out.frA HU.out)).mono ?_
    rintro e w1 ⟨rfl, hb⟩
    have S_2 := Lib.hid (S_1.out.call hb)
    clear S_1
    clear hb
    rw [H1.out]
    by_cases g1 : s1 = true
    · have HE := Lib.hid (HYY.out g1)
      subst g1
      have hk_a_0_2 := S_2.out.cell 1 0 rfl rfl
      have hk_a_1_2 := S_2.out.cell 1 1 rfl rfl
      have hk_a_2_2 := S_2.out.cell 1 2 rfl rfl
      have hk_a_3_2 := S_2.out.cell 1 3 rfl rfl
      have hk_a_4_2 := S_2.out.cell 1 4 rfl rfl
      have hk_b_0_2 := S_2.out.cell 0 0 rfl rfl
      have hk_b_1_2 := S_2.out.cell 0 1 rfl rfl
      have hk_b_2_2 := S_2.out.cell 0 2 rfl rfl
      have hk_b_3_2 := S_2.out.cell 0 3 rfl rfl
      have hk_b_4_2 := S_2.out.cell 0 4 rfl rfl
      go_wp2_with fail
      refine (equalFuncPa_f A B n m c d ys zs _ (HA.out.below S_2.out.below) (HB.out.below S_2.out.below) hn hm).mono ?_
      rintro e w2 ⟨rfl, hb⟩
      have S_3 := Lib.hid (S_2.out.call hb)
      clear S_2
      clear hb
      clear hk_a_0_2 hk_a_1_2 hk_a_2_2 hk_a_3_2 hk_a_4_2 hk_b_0_2 hk_b_1_2 hk_b_2_2 hk_b_3_2 hk_b_4_2
      go_wp2
      all_goals go_ret
      all_goals exact ret_b (by rw [← HE.out]) S_3.out.below
    · rw [Bool.not_eq_true] at g1
      have HE := Lib.hid (HF.out g1)
      subst g1
      go_wp2
      all_goals go_ret
      all_goals exact ret_b HE.out S_2.out.below
  · have hq2 : (N == M) = false := by simpa using h0
    have HE := Lib.hid (HN.out h0)
    go_enter Try.func7, Try.ntmps7
    go_wp2
    all_goals go_ret
    all_goals exact ret_b HE.out S_1.out.below
set_option maxRecDepth 100000 in
set_option maxHeartbeats 4000000 in
theorem sameConditional_s (N : Int) (T : Fr) (t0 t1 : Value) (A : Option Addr) (n c : Nat) (ys : List Rc) (M : Int) (U : Fr) (u0 u1 : Value) (B : Option Addr) (m d : Nat) (zs : List Rc) (w : World) (hT : FrA w T t0 t1) (hU : FrA w U u0 u1) (hA : PaArg w A n ys) (hB : PaArg w B m zs) (hn : n ≤ 1048576) (hm : m ≤ 1048576) :
    Calls Try.prog 5 #[.agg #[.int .i64 N, .bool T.s, t0, t1, (.slice A n c)], .agg #[.int .i64 M, .bool U.s, u0, u1, (.slice B m d)]] w fun e w' => e = .returned (.bool (sameC N T (dats ys) M U (dats zs))) ∧ Below w.heap.size w w' := by
  have HT := Lib.hid hT
  have HU := Lib.hid hU
  have HA := Lib.hid hA
  have HB := Lib.hid hB
  obtain ⟨ans, hans⟩ : ∃ z, sameC N T (dats ys) M U (dats zs) = z := ⟨_, rfl⟩
  rw [hans]
  obtain ⟨s1, hs1⟩ : ∃ z, T.same U = z := ⟨_, rfl⟩
  have H1 := Lib.hid hs1
  have HN := Lib.hid (show ¬ N = M → false = ans by intro h; rw [← hans]; unfold sameC; rw [decide_eq_false h]; rfl)
  have HF := Lib.hid (show s1 = false → false = ans by intro h; rw [← hans]; unfold sameC; rw [hs1, h]; simp)
  have HY := Lib.hid (show N = M → s1 = true → sameDas (dats ys) (dats zs) = ans by intro h g; rw [← hans]; unfold sameC; rw [hs1, g, decide_eq_true h]; rfl)
  clear hT hU hA hB hans hs1
  have S_1 := Lib.hid (show St w ((w.alloc (.cells #[.int .i64 N, .bool T.s, t0, t1, (.slice A n c)] 37)).alloc (.cells #[.int .i64 M, .bool U.s, u0, u1, (.slice B m d)] 37)) [(w.heap.size + 1, [.int .i64 M, .bool U.s, u0, u1, (.slice B m d)]), (w.heap.size, [.int .i64 N, .bool T.s, t0, t1, (.slice A n c)])] [] from (((St.start w).alloc_at (b := w.heap.size) [.int .i64 N, .bool T.s, t0, t1, (.slice A n c)] 37 (by first | rfl | simp)).alloc_at (b := w.heap.size + 1) [.int .i64 M, .bool U.s, u0, u1, (.slice B m d)] 37 (by first | rfl | simp)))
  have hne_b_a : w.heap.size + 1 ≠ w.heap.size := by omega
  have hne_a_b : w.heap.size ≠ w.heap.size + 1 := by omega
  by_cases h0 : N = M
  · have HYY := Lib.hid (HY.out h0)
    subst h0
    have hq2 : (N != N) = false := by simp
    go_enter Try.func5, Try.ntmps5
    go_wp2_with fail
    refine (ratEqual_s T U t0 t1 u0 u1 _ (S_1.out.frA HT.out) (S_1.out.frA HU.out)).mono ?_
    rintro e w1 ⟨rfl, hb⟩
    have S_2 := Lib.hid (S_1.out.call hb)
    clear S_1
    clear hb
    rw [H1.out]
    by_cases g1 : s1 = true
    · have HE := Lib.hid (HYY.out g1)
      subst g1
      have HLA := Lib.hid (show (dats ys).length = n by rw [dats_len]; exact HA.out.row.len)
      have HLB := Lib.hid (show (dats zs).length = m by rw [dats_len]; exact HB.out.row.len)
      by_cases hnm : n = m
      · subst hnm
        have hne : ((n : Int) != (n : Int)) = false := by simp
        have hk_a_0_2 := S_2.out.cell 1 0 rfl rfl
        have hk_a_1_2 := S_2.out.cell 1 1 rfl rfl
        have hk_a_2_2 := S_2.out.cell 1 2 rfl rfl
        have hk_a_3_2 := S_2.out.cell 1 3 rfl rfl
        have hk_a_4_2 := S_2.out.cell 1 4 rfl rfl
        have hk_b_0_2 := S_2.out.cell 0 0 rfl rfl
        have hk_b_1_2 := S_2.out.cell 0 1 rfl rfl
        have hk_b_2_2 := S_2.out.cell 0 2 rfl rfl
        have hk_b_3_2 := S_2.out.cell 0 3 rfl rfl
        have hk_b_4_2 := S_2.out.cell 0 4 rfl rfl
        go_wp2
        clear hk_a_0_2 hk_a_1_2 hk_a_2_2 hk_a_3_2 hk_a_4_2 hk_b_0_2 hk_b_1_2 hk_b_2_2 hk_b_3_2 hk_b_4_2
        have SX := Lib.hid S_2.out
        go_loopw [33] (fun i wr => ∃ k : Nat, k ≤ n ∧ i = .int .i64 k ∧ (∀ (j : Nat) (x y : Da), j < k → (dats ys)[j]? = some x → (dats zs)[j]? = some y → sameDa x y = true) ∧ St w wr [(w.heap.size + 1, [.int .i64 N, .bool U.s, u0, u1, (.slice B n d)]), (w.heap.size, [.int .i64 N, .bool T.s, t0, t1, (.slice A n c)])] []) (fun i _ => n - (intOf i).toNat)
        case atStart => exact ⟨0, Nat.zero_le _, rfl, fun j x y hj => by omega, SX.out⟩
        case round =>
          obtain ⟨k, hk, rfl, hlt, hst⟩ := hrel
          have HT0 := Lib.hid HT.out
          have HT := Lib.hid hlt
          have HW := Lib.hid hst.below
          have R_0 := Lib.hid hst
          clear hlt hst SX S_2
          by_cases hkn : k < n
          · obtain ⟨g, o, y, rfl, hg, hy, hry, hsy, hcy⟩ := (HA.out.below HW.out).at_ hkn
            obtain ⟨g', o', z, rfl, hg', hz, hrz, hsz, hcz⟩ := (HB.out.below HW.out).at_ hkn
            obtain ⟨YA, YP, YQ, YR, a0, n0, d0, a1, n1, d1, a2, n2, d2, a3, n3, d3, a4, n4, d4, a5, n5, d5, rfl⟩ := Rc.shapes13 hsy hry
            obtain ⟨ZA, ZP, ZQ, ZR, e0, m0, h0, e1, m1, h1, e2, m2, h2, e3, m3, h3, e4, m4, h4, e5, m5, h5, rfl⟩ := Rc.shapes13 hsz hrz
            have hk0 : (0 : Int) ≤ (k : Int) := by omega
            have hk1 : (k : Int) < (n : Int) := by omega
            have HRY := Lib.hid hry
            have HRZ := Lib.hid hrz
            obtain ⟨r, hr⟩ : ∃ q, samePa YA YP YQ YR ZA ZP ZQ ZR = q := ⟨_, rfl⟩
            have HBAD := Lib.hid (show r = false → sameDas (dats ys) (dats zs) = false by intro h; exact sameDas_bad (dats_get hy) (dats_get hz) (show samePa YA YP YQ YR ZA ZP ZQ ZR = false from hr.trans h))
            have HGOOD := Lib.hid (show r = true → ∀ (j : Nat) (x y : Da), j < k + 1 → (dats ys)[j]? = some x → (dats zs)[j]? = some y → sameDa x y = true by
              intro h j x y hj hx hy'
              by_cases e : j = k
              · subst e
                obtain rfl := Option.some.inj ((dats_get hy).symm.trans hx)
                obtain rfl := Option.some.inj ((dats_get hz).symm.trans hy')
                exact (show samePa YA YP YQ YR ZA ZP ZQ ZR = true from hr.trans h)
              · exact HT.out j x y (by omega) hx hy')
            have HR := Lib.hid hr
            have c0 : wr.cell? ⟨g, o + k * 10, none⟩ = some (.int .i64 YA) := hcy 0 _ rfl
            have c1 : wr.cell? ⟨g, o + k * 10 + 1, none⟩ = some (.bool YP.s) := hcy 1 _ rfl
            have c2 : wr.cell? ⟨g, o + k * 10 + 2, none⟩ = some ((.slice a0 n0 d0)) := hcy 2 _ rfl
            have c3 : wr.cell? ⟨g, o + k * 10 + 3, none⟩ = some ((.slice a1 n1 d1)) := hcy 3 _ rfl
            have c4 : wr.cell? ⟨g, o + k * 10 + 4, none⟩ = some (.bool YQ.s) := hcy 4 _ rfl
            have c5 : wr.cell? ⟨g, o + k * 10 + 5, none⟩ = some ((.slice a2 n2 d2)) := hcy 5 _ rfl
            have c6 : wr.cell? ⟨g, o + k * 10 + 6, none⟩ = some ((.slice a3 n3 d3)) := hcy 6 _ rfl
            have c7 : wr.cell? ⟨g, o + k * 10 + 7, none⟩ = some (.bool YR.s) := hcy 7 _ rfl
            have c8 : wr.cell? ⟨g, o + k * 10 + 8, none⟩ = some ((.slice a4 n4 d4)) := hcy 8 _ rfl
            have c9 : wr.cell? ⟨g, o + k * 10 + 9, none⟩ = some ((.slice a5 n5 d5)) := hcy 9 _ rfl
            have x0 : wr.cell? ⟨g', o' + k * 10, none⟩ = some (.int .i64 ZA) := hcz 0 _ rfl
            have x1 : wr.cell? ⟨g', o' + k * 10 + 1, none⟩ = some (.bool ZP.s) := hcz 1 _ rfl
            have x2 : wr.cell? ⟨g', o' + k * 10 + 2, none⟩ = some ((.slice e0 m0 h0)) := hcz 2 _ rfl
            have x3 : wr.cell? ⟨g', o' + k * 10 + 3, none⟩ = some ((.slice e1 m1 h1)) := hcz 3 _ rfl
            have x4 : wr.cell? ⟨g', o' + k * 10 + 4, none⟩ = some (.bool ZQ.s) := hcz 4 _ rfl
            have x5 : wr.cell? ⟨g', o' + k * 10 + 5, none⟩ = some ((.slice e2 m2 h2)) := hcz 5 _ rfl
            have x6 : wr.cell? ⟨g', o' + k * 10 + 6, none⟩ = some ((.slice e3 m3 h3)) := hcz 6 _ rfl
            have x7 : wr.cell? ⟨g', o' + k * 10 + 7, none⟩ = some (.bool ZR.s) := hcz 7 _ rfl
            have x8 : wr.cell? ⟨g', o' + k * 10 + 8, none⟩ = some ((.slice e4 m4 h4)) := hcz 8 _ rfl
            have x9 : wr.cell? ⟨g', o' + k * 10 + 9, none⟩ = some ((.slice e5 m5 h5)) := hcz 9 _ rfl
            clear hy hz hry hrz hcy hcz hr hsy hsz
            have hk_a_0_2 := R_0.out.cell 1 0 rfl rfl
            have hk_a_1_2 := R_0.out.cell 1 1 rfl rfl
            have hk_a_2_2 := R_0.out.cell 1 2 rfl rfl
            have hk_a_3_2 := R_0.out.cell 1 3 rfl rfl
            have hk_a_4_2 := R_0.out.cell 1 4 rfl rfl
            have hk_b_0_2 := R_0.out.cell 0 0 rfl rfl
            have hk_b_1_2 := R_0.out.cell 0 1 rfl rfl
            have hk_b_2_2 := R_0.out.cell 0 2 rfl rfl
            have hk_b_3_2 := R_0.out.cell 0 3 rfl rfl
            have hk_b_4_2 := R_0.out.cell 0 4 rfl rfl
            have S_3 := Lib.hid (R_0.out.alloc [.int .i64 YA, .bool YP.s, (.slice a0 n0 d0), (.slice a1 n1 d1), .bool YQ.s, (.slice a2 n2 d2), (.slice a3 n3 d3), .bool YR.s, (.slice a4 n4 d4), (.slice a5 n5 d5)] 44)
            clear R_0
            have hne_b_p := S_3.out.ne 1 0 rfl rfl (by decide)
            have hne_p_b := S_3.out.ne 0 1 rfl rfl (by decide)
            have hne_a_p := S_3.out.ne 2 0 rfl rfl (by decide)
            have hne_p_a := S_3.out.ne 0 2 rfl rfl (by decide)
            have hk_a_0_3 := S_3.out.cell 2 0 rfl rfl
            have hk_a_1_3 := S_3.out.cell 2 1 rfl rfl
            have hk_a_2_3 := S_3.out.cell 2 2 rfl rfl
            have hk_a_3_3 := S_3.out.cell 2 3 rfl rfl
            have hk_a_4_3 := S_3.out.cell 2 4 rfl rfl
            have hk_b_0_3 := S_3.out.cell 1 0 rfl rfl
            have hk_b_1_3 := S_3.out.cell 1 1 rfl rfl
            have hk_b_2_3 := S_3.out.cell 1 2 rfl rfl
            have hk_b_3_3 := S_3.out.cell 1 3 rfl rfl
            have hk_b_4_3 := S_3.out.cell 1 4 rfl rfl
            have S_4 := Lib.hid (S_3.out.alloc_at (b := wr.heap.size + 1) [.int .i64 ZA, .bool ZP.s, (.slice e0 m0 h0), (.slice e1 m1 h1), .bool ZQ.s, (.slice e2 m2 h2), (.slice e3 m3 h3), .bool ZR.s, (.slice e4 m4 h4), (.slice e5 m5 h5)] 44 (by simp))
            clear S_3
            have hne_p_q := S_4.out.ne 1 0 rfl rfl (by decide)
            have hne_q_p := S_4.out.ne 0 1 rfl rfl (by decide)
            have hne_b_q := S_4.out.ne 2 0 rfl rfl (by decide)
            have hne_q_b := S_4.out.ne 0 2 rfl rfl (by decide)
            have hne_a_q := S_4.out.ne 3 0 rfl rfl (by decide)
            have hne_q_a := S_4.out.ne 0 3 rfl rfl (by decide)
            have hk_a_0_4 := S_4.out.cell 3 0 rfl rfl
            have hk_a_1_4 := S_4.out.cell 3 1 rfl rfl
            have hk_a_2_4 := S_4.out.cell 3 2 rfl rfl
            have hk_a_3_4 := S_4.out.cell 3 3 rfl rfl
            have hk_a_4_4 := S_4.out.cell 3 4 rfl rfl
            have hk_b_0_4 := S_4.out.cell 2 0 rfl rfl
            have hk_b_1_4 := S_4.out.cell 2 1 rfl rfl
            have hk_b_2_4 := S_4.out.cell 2 2 rfl rfl
            have hk_b_3_4 := S_4.out.cell 2 3 rfl rfl
            have hk_b_4_4 := S_4.out.cell 2 4 rfl rfl
            have BW := Lib.hid (show Below wr.heap.size wr ((wr.alloc (.cells #[.int .i64 YA, .bool YP.s, (.slice a0 n0 d0), (.slice a1 n1 d1), .bool YQ.s, (.slice a2 n2 d2), (.slice a3 n3 d3), .bool YR.s, (.slice a4 n4 d4), (.slice a5 n5 d5)] 44)).alloc (.cells #[.int .i64 ZA, .bool ZP.s, (.slice e0 m0 h0), (.slice e1 m1 h1), .bool ZQ.s, (.slice e2 m2 h2), (.slice e3 m3 h3), .bool ZR.s, (.slice e4 m4 h4), (.slice e5 m5 h5)] 44)) from ((Below.refl _ _).alloc (Nat.le_refl _) _).alloc (by simp) _)
            by_cases e1 : YA = ZA
            · subst e1
              have g5 : (YA != YA) = false := by simp
              go_wp2_with fail
              refine (ratEqual_s YP ZP (.slice a0 n0 d0) (.slice a1 n1 d1) (.slice e0 m0 h0) (.slice e1 m1 h1) _ (HRY.out.below BW.out (YP, .slice a0 n0 d0, .slice a1 n1 d1) (by simp)) (HRZ.out.below BW.out (ZP, .slice e0 m0 h0, .slice e1 m1 h1) (by simp))).mono ?_
              rintro e v0 ⟨rfl, hb⟩
              obtain ⟨q0, hq0⟩ : ∃ z, YP.same ZP = z := ⟨_, rfl⟩
              rw [hq0]
              have HQ0 := Lib.hid hq0
              have BX := Lib.hid (BW.out.trans (hb.mono BW.out.size))
              clear hq0 BW
              have BW := Lib.hid BX.out
              clear BX
              have S_5 := Lib.hid (S_4.out.call hb)
              clear S_4
              clear hb
              clear hk_a_0_2 hk_a_1_2 hk_a_2_2 hk_a_3_2 hk_a_4_2 hk_b_0_2 hk_b_1_2 hk_b_2_2 hk_b_3_2 hk_b_4_2 hk_a_0_3 hk_a_1_3 hk_a_2_3 hk_a_3_3 hk_a_4_3 hk_b_0_3 hk_b_1_3 hk_b_2_3 hk_b_3_3 hk_b_4_3 hk_a_0_4 hk_a_1_4 hk_a_2_4 hk_a_3_4 hk_a_4_4 hk_b_0_4 hk_b_1_4 hk_b_2_4 hk_b_3_4 hk_b_4_4
              by_cases k0 : q0 = true
              · subst k0
                have hk_a_0_5 := S_5.out.cell 3 0 rfl rfl
                have hk_a_1_5 := S_5.out.cell 3 1 rfl rfl
                have hk_a_2_5 := S_5.out.cell 3 2 rfl rfl
                have hk_a_3_5 := S_5.out.cell 3 3 rfl rfl
                have hk_a_4_5 := S_5.out.cell 3 4 rfl rfl
                have hk_b_0_5 := S_5.out.cell 2 0 rfl rfl
                have hk_b_1_5 := S_5.out.cell 2 1 rfl rfl
                have hk_b_2_5 := S_5.out.cell 2 2 rfl rfl
                have hk_b_3_5 := S_5.out.cell 2 3 rfl rfl
                have hk_b_4_5 := S_5.out.cell 2 4 rfl rfl
                have hk_p_0_5 := S_5.out.cell 1 0 rfl rfl
                have hk_p_1_5 := S_5.out.cell 1 1 rfl rfl
                have hk_p_2_5 := S_5.out.cell 1 2 rfl rfl
                have hk_p_3_5 := S_5.out.cell 1 3 rfl rfl
                have hk_p_4_5 := S_5.out.cell 1 4 rfl rfl
                have hk_p_5_5 := S_5.out.cell 1 5 rfl rfl
                have hk_p_6_5 := S_5.out.cell 1 6 rfl rfl
                have hk_p_7_5 := S_5.out.cell 1 7 rfl rfl
                have hk_p_8_5 := S_5.out.cell 1 8 rfl rfl
                have hk_p_9_5 := S_5.out.cell 1 9 rfl rfl
                have hk_q_0_5 := S_5.out.cell 0 0 rfl rfl
                have hk_q_1_5 := S_5.out.cell 0 1 rfl rfl
                have hk_q_2_5 := S_5.out.cell 0 2 rfl rfl
                have hk_q_3_5 := S_5.out.cell 0 3 rfl rfl
                have hk_q_4_5 := S_5.out.cell 0 4 rfl rfl
                have hk_q_5_5 := S_5.out.cell 0 5 rfl rfl
                have hk_q_6_5 := S_5.out.cell 0 6 rfl rfl
                have hk_q_7_5 := S_5.out.cell 0 7 rfl rfl
                have hk_q_8_5 := S_5.out.cell 0 8 rfl rfl
                have hk_q_9_5 := S_5.out.cell 0 9 rfl rfl
                go_wp2_with fail
                refine (ratEqual_s YQ ZQ (.slice a2 n2 d2) (.slice a3 n3 d3) (.slice e2 m2 h2) (.slice e3 m3 h3) _ (HRY.out.below BW.out (YQ, .slice a2 n2 d2, .slice a3 n3 d3) (by simp)) (HRZ.out.below BW.out (ZQ, .slice e2 m2 h2, .slice e3 m3 h3) (by simp))).mono ?_
                rintro e v1 ⟨rfl, hb⟩
                obtain ⟨q1, hq1⟩ : ∃ z, YQ.same ZQ = z := ⟨_, rfl⟩
                rw [hq1]
                have HQ1 := Lib.hid hq1
                have BX := Lib.hid (BW.out.trans (hb.mono BW.out.size))
                clear hq1 BW
                have BW := Lib.hid BX.out
                clear BX
                have S_6 := Lib.hid (S_5.out.call hb)
                clear S_5
                clear hb
                clear hk_a_0_5 hk_a_1_5 hk_a_2_5 hk_a_3_5 hk_a_4_5 hk_b_0_5 hk_b_1_5 hk_b_2_5 hk_b_3_5 hk_b_4_5 hk_p_0_5 hk_p_1_5 hk_p_2_5 hk_p_3_5 hk_p_4_5 hk_p_5_5 hk_p_6_5 hk_p_7_5 hk_p_8_5 hk_p_9_5 hk_q_0_5 hk_q_1_5 hk_q_2_5 hk_q_3_5 hk_q_4_5 hk_q_5_5 hk_q_6_5 hk_q_7_5 hk_q_8_5 hk_q_9_5
                by_cases k1 : q1 = true
                · subst k1
                  have hk_a_0_6 := S_6.out.cell 3 0 rfl rfl
                  have hk_a_1_6 := S_6.out.cell 3 1 rfl rfl
                  have hk_a_2_6 := S_6.out.cell 3 2 rfl rfl
                  have hk_a_3_6 := S_6.out.cell 3 3 rfl rfl
                  have hk_a_4_6 := S_6.out.cell 3 4 rfl rfl
                  have hk_b_0_6 := S_6.out.cell 2 0 rfl rfl
                  have hk_b_1_6 := S_6.out.cell 2 1 rfl rfl
                  have hk_b_2_6 := S_6.out.cell 2 2 rfl rfl
                  have hk_b_3_6 := S_6.out.cell 2 3 rfl rfl
                  have hk_b_4_6 := S_6.out.cell 2 4 rfl rfl
                  have hk_p_0_6 := S_6.out.cell 1 0 rfl rfl
                  have hk_p_1_6 := S_6.out.cell 1 1 rfl rfl
                  have hk_p_2_6 := S_6.out.cell 1 2 rfl rfl
                  have hk_p_3_6 := S_6.out.cell 1 3 rfl rfl
                  have hk_p_4_6 := S_6.out.cell 1 4 rfl rfl
                  have hk_p_5_6 := S_6.out.cell 1 5 rfl rfl
                  have hk_p_6_6 := S_6.out.cell 1 6 rfl rfl
                  have hk_p_7_6 := S_6.out.cell 1 7 rfl rfl
                  have hk_p_8_6 := S_6.out.cell 1 8 rfl rfl
                  have hk_p_9_6 := S_6.out.cell 1 9 rfl rfl
                  have hk_q_0_6 := S_6.out.cell 0 0 rfl rfl
                  have hk_q_1_6 := S_6.out.cell 0 1 rfl rfl
                  have hk_q_2_6 := S_6.out.cell 0 2 rfl rfl
                  have hk_q_3_6 := S_6.out.cell 0 3 rfl rfl
                  have hk_q_4_6 := S_6.out.cell 0 4 rfl rfl
                  have hk_q_5_6 := S_6.out.cell 0 5 rfl rfl
                  have hk_q_6_6 := S_6.out.cell 0 6 rfl rfl
                  have hk_q_7_6 := S_6.out.cell 0 7 rfl rfl
                  have hk_q_8_6 := S_6.out.cell 0 8 rfl rfl
                  have hk_q_9_6 := S_6.out.cell 0 9 rfl rfl
                  go_wp2_with fail
                  refine (ratEqual_s YR ZR (.slice a4 n4 d4) (.slice a5 n5 d5) (.slice e4 m4 h4) (.slice e5 m5 h5) _ (HRY.out.below BW.out (YR, .slice a4 n4 d4, .slice a5 n5 d5) (by simp)) (HRZ.out.below BW.out (ZR, .slice e4 m4 h4, .slice e5 m5 h5) (by simp))).mono ?_
                  rintro e v2 ⟨rfl, hb⟩
                  obtain ⟨q2, hq2⟩ : ∃ z, YR.same ZR = z := ⟨_, rfl⟩
                  rw [hq2]
                  have HQ2 := Lib.hid hq2
                  have BX := Lib.hid (BW.out.trans (hb.mono BW.out.size))
                  clear hq2 BW
                  have BW := Lib.hid BX.out
                  clear BX
                  have S_7 := Lib.hid (S_6.out.call hb)
                  clear S_6
                  clear hb
                  clear hk_a_0_6 hk_a_1_6 hk_a_2_6 hk_a_3_6 hk_a_4_6 hk_b_0_6 hk_b_1_6 hk_b_2_6 hk_b_3_6 hk_b_4_6 hk_p_0_6 hk_p_1_6 hk_p_2_6 hk_p_3_6 hk_p_4_6 hk_p_5_6 hk_p_6_6 hk_p_7_6 hk_p_8_6 hk_p_9_6 hk_q_0_6 hk_q_1_6 hk_q_2_6 hk_q_3_6 hk_q_4_6 hk_q_5_6 hk_q_6_6 hk_q_7_6 hk_q_8_6 hk_q_9_6
                  by_cases k2 : q2 = true
                  · subst k2
                    have hk_a_0_7 := S_7.out.cell 3 0 rfl rfl
                    have hk_a_1_7 := S_7.out.cell 3 1 rfl rfl
                    have hk_a_2_7 := S_7.out.cell 3 2 rfl rfl
                    have hk_a_3_7 := S_7.out.cell 3 3 rfl rfl
                    have hk_a_4_7 := S_7.out.cell 3 4 rfl rfl
                    have hk_b_0_7 := S_7.out.cell 2 0 rfl rfl
                    have hk_b_1_7 := S_7.out.cell 2 1 rfl rfl
                    have hk_b_2_7 := S_7.out.cell 2 2 rfl rfl
                    have hk_b_3_7 := S_7.out.cell 2 3 rfl rfl
                    have hk_b_4_7 := S_7.out.cell 2 4 rfl rfl
                    have hk_p_0_7 := S_7.out.cell 1 0 rfl rfl
                    have hk_p_1_7 := S_7.out.cell 1 1 rfl rfl
                    have hk_p_2_7 := S_7.out.cell 1 2 rfl rfl
                    have hk_p_3_7 := S_7.out.cell 1 3 rfl rfl
                    have hk_p_4_7 := S_7.out.cell 1 4 rfl rfl
                    have hk_p_5_7 := S_7.out.cell 1 5 rfl rfl
                    have hk_p_6_7 := S_7.out.cell 1 6 rfl rfl
                    have hk_p_7_7 := S_7.out.cell 1 7 rfl rfl
                    have hk_p_8_7 := S_7.out.cell 1 8 rfl rfl
                    have hk_p_9_7 := S_7.out.cell 1 9 rfl rfl
                    have hk_q_0_7 := S_7.out.cell 0 0 rfl rfl
                    have hk_q_1_7 := S_7.out.cell 0 1 rfl rfl
                    have hk_q_2_7 := S_7.out.cell 0 2 rfl rfl
                    have hk_q_3_7 := S_7.out.cell 0 3 rfl rfl
                    have hk_q_4_7 := S_7.out.cell 0 4 rfl rfl
                    have hk_q_5_7 := S_7.out.cell 0 5 rfl rfl
                    have hk_q_6_7 := S_7.out.cell 0 6 rfl rfl
                    have hk_q_7_7 := S_7.out.cell 0 7 rfl rfl
                    have hk_q_8_7 := S_7.out.cell 0 8 rfl rfl
                    have hk_q_9_7 := S_7.out.cell 0 9 rfl rfl
                    have HT2 := Lib.hid (HGOOD.out (by rw [← HR.out]; unfold samePa; rw [HQ0.out, HQ1.out, HQ2.out]; simp))
                    go_wp2
                    exact ⟨⟨k + 1, by omega, by go_num, HT2.out, S_7.out.sub (by simp) (List.Sublist.refl _)⟩, by simp [intOf]; omega⟩
                  · rw [Bool.not_eq_true] at k2
                    subst k2
                    have HE2 := Lib.hid (show false = ans by rw [← HE.out]; exact (HBAD.out (by rw [← HR.out]; unfold samePa; rw [HQ2.out]; simp)).symm)
                    have hk_a_0_7 := S_7.out.cell 3 0 rfl rfl
                    have hk_a_1_7 := S_7.out.cell 3 1 rfl rfl
                    have hk_a_2_7 := S_7.out.cell 3 2 rfl rfl
                    have hk_a_3_7 := S_7.out.cell 3 3 rfl rfl
                    have hk_a_4_7 := S_7.out.cell 3 4 rfl rfl
                    have hk_b_0_7 := S_7.out.cell 2 0 rfl rfl
                    have hk_b_1_7 := S_7.out.cell 2 1 rfl rfl
                    have hk_b_2_7 := S_7.out.cell 2 2 rfl rfl
                    have hk_b_3_7 := S_7.out.cell 2 3 rfl rfl
                    have hk_b_4_7 := S_7.out.cell 2 4 rfl rfl
                    have hk_p_0_7 := S_7.out.cell 1 0 rfl rfl
                    have hk_p_1_7 := S_7.out.cell 1 1 rfl rfl
                    have hk_p_2_7 := S_7.out.cell 1 2 rfl rfl
                    have hk_p_3_7 := S_7.out.cell 1 3 rfl rfl
                    have hk_p_4_7 := S_7.out.cell 1 4 rfl rfl
                    have hk_p_5_7 := S_7.out.cell 1 5 rfl rfl
                    have hk_p_6_7 := S_7.out.cell 1 6 rfl rfl
                    have hk_p_7_7 := S_7.out.cell 1 7 rfl rfl
                    have hk_p_8_7 := S_7.out.cell 1 8 rfl rfl
                    have hk_p_9_7 := S_7.out.cell 1 9 rfl rfl
                    have hk_q_0_7 := S_7.out.cell 0 0 rfl rfl
                    have hk_q_1_7 := S_7.out.cell 0 1 rfl rfl
                    have hk_q_2_7 := S_7.out.cell 0 2 rfl rfl
                    have hk_q_3_7 := S_7.out.cell 0 3 rfl rfl
                    have hk_q_4_7 := S_7.out.cell 0 4 rfl rfl
                    have hk_q_5_7 := S_7.out.cell 0 5 rfl rfl
                    have hk_q_6_7 := S_7.out.cell 0 6 rfl rfl
                    have hk_q_7_7 := S_7.out.cell 0 7 rfl rfl
                    have hk_q_8_7 := S_7.out.cell 0 8 rfl rfl
                    have hk_q_9_7 := S_7.out.cell 0 9 rfl rfl
                    go_wp2
                    go_ret
                    exact ⟨ret_bool HE2.out, S_7.out.below⟩
                · rw [Bool.not_eq_true] at k1
                  subst k1
                  have HE2 := Lib.hid (show false = ans by rw [← HE.out]; exact (HBAD.out (by rw [← HR.out]; unfold samePa; rw [HQ1.out]; simp)).symm)
                  have hk_a_0_7 := S_6.out.cell 3 0 rfl rfl
                  have hk_a_1_7 := S_6.out.cell 3 1 rfl rfl
                  have hk_a_2_7 := S_6.out.cell 3 2 rfl rfl
                  have hk_a_3_7 := S_6.out.cell 3 3 rfl rfl
                  have hk_a_4_7 := S_6.out.cell 3 4 rfl rfl
                  have hk_b_0_7 := S_6.out.cell 2 0 rfl rfl
                  have hk_b_1_7 := S_6.out.cell 2 1 rfl rfl
                  have hk_b_2_7 := S_6.out.cell 2 2 rfl rfl
                  have hk_b_3_7 := S_6.out.cell 2 3 rfl rfl
                  have hk_b_4_7 := S_6.out.cell 2 4 rfl rfl
                  have hk_p_0_7 := S_6.out.cell 1 0 rfl rfl
                  have hk_p_1_7 := S_6.out.cell 1 1 rfl rfl
                  have hk_p_2_7 := S_6.out.cell 1 2 rfl rfl
                  have hk_p_3_7 := S_6.out.cell 1 3 rfl rfl
                  have hk_p_4_7 := S_6.out.cell 1 4 rfl rfl
                  have hk_p_5_7 := S_6.out.cell 1 5 rfl rfl
                  have hk_p_6_7 := S_6.out.cell 1 6 rfl rfl
                  have hk_p_7_7 := S_6.out.cell 1 7 rfl rfl
                  have hk_p_8_7 := S_6.out.cell 1 8 rfl rfl
                  have hk_p_9_7 := S_6.out.cell 1 9 rfl rfl
                  have hk_q_0_7 := S_6.out.cell 0 0 rfl rfl
                  have hk_q_1_7 := S_6.out.cell 0 1 rfl rfl
                  have hk_q_2_7 := S_6.out.cell 0 2 rfl rfl
                  have hk_q_3_7 := S_6.out.cell 0 3 rfl rfl
                  have hk_q_4_7 := S_6.out.cell 0 4 rfl rfl
                  have hk_q_5_7 := S_6.out.cell 0 5 rfl rfl
                  have hk_q_6_7 := S_6.out.cell 0 6 rfl rfl
                  have hk_q_7_7 := S_6.out.cell 0 7 rfl rfl
                  have hk_q_8_7 := S_6.out.cell 0 8 rfl rfl
                  have hk_q_9_7 := S_6.out.cell 0 9 rfl rfl
                  go_wp2
                  go_ret
                  exact ⟨ret_bool HE2.out, S_6.out.below⟩
              · rw [Bool.not_eq_true] at k0
                subst k0
                have HE2 := Lib.hid (show false = ans by rw [← HE.out]; exact (HBAD.out (by rw [← HR.out]; unfold samePa; rw [HQ0.out]; simp)).symm)
                have hk_a_0_7 := S_5.out.cell 3 0 rfl rfl
                have hk_a_1_7 := S_5.out.cell 3 1 rfl rfl
                have hk_a_2_7 := S_5.out.cell 3 2 rfl rfl
                have hk_a_3_7 := S_5.out.cell 3 3 rfl rfl
                have hk_a_4_7 := S_5.out.cell 3 4 rfl rfl
                have hk_b_0_7 := S_5.out.cell 2 0 rfl rfl
                have hk_b_1_7 := S_5.out.cell 2 1 rfl rfl
                have hk_b_2_7 := S_5.out.cell 2 2 rfl rfl
                have hk_b_3_7 := S_5.out.cell 2 3 rfl rfl
                have hk_b_4_7 := S_5.out.cell 2 4 rfl rfl
                have hk_p_0_7 := S_5.out.cell 1 0 rfl rfl
                have hk_p_1_7 := S_5.out.cell 1 1 rfl rfl
                have hk_p_2_7 := S_5.out.cell 1 2 rfl rfl
                have hk_p_3_7 := S_5.out.cell 1 3 rfl rfl
                have hk_p_4_7 := S_5.out.cell 1 4 rfl rfl
                have hk_p_5_7 := S_5.out.cell 1 5 rfl rfl
                have hk_p_6_7 := S_5.out.cell 1 6 rfl rfl
                have hk_p_7_7 := S_5.out.cell 1 7 rfl rfl
                have hk_p_8_7 := S_5.out.cell 1 8 rfl rfl
                have hk_p_9_7 := S_5.out.cell 1 9 rfl rfl
                have hk_q_0_7 := S_5.out.cell 0 0 rfl rfl
                have hk_q_1_7 := S_5.out.cell 0 1 rfl rfl
                have hk_q_2_7 := S_5.out.cell 0 2 rfl rfl
                have hk_q_3_7 := S_5.out.cell 0 3 rfl rfl
                have hk_q_4_7 := S_5.out.cell 0 4 rfl rfl
                have hk_q_5_7 := S_5.out.cell 0 5 rfl rfl
                have hk_q_6_7 := S_5.out.cell 0 6 rfl rfl
                have hk_q_7_7 := S_5.out.cell 0 7 rfl rfl
                have hk_q_8_7 := S_5.out.cell 0 8 rfl rfl
                have hk_q_9_7 := S_5.out.cell 0 9 rfl rfl
                go_wp2
                go_ret
                exact ⟨ret_bool HE2.out, S_5.out.below⟩
            · have g5 : (YA != ZA) = true := by simpa using e1
              have HE2 := Lib.hid (show false = ans by rw [← HE.out]; exact (HBAD.out (by rw [← HR.out]; unfold samePa; rw [decide_eq_false e1]; rfl)).symm)
              clear e1
              go_wp2
              go_ret
              exact ⟨ret_bool HE2.out, S_4.out.below⟩
          · obtain rfl : k = n := by omega
            have HE2 := Lib.hid (show true = ans by rw [← HE.out]; exact (sameDas_all (HLA.out.trans HLB.out.symm) (fun j x y hx hy => HT.out j x y (by have := (List.getElem?_eq_some_iff.mp hx).1; have := HLA.out; omega) hx hy)).symm)
            go_wp2
            go_ret
            exact ⟨ret_bool HE2.out, R_0.out.below⟩
      · have HE2 := Lib.hid (show false = ans by rw [← HE.out]; exact (sameDas_len (by rw [HLA.out, HLB.out]; exact hnm)).symm)
        have hne : ((n : Int) != (m : Int)) = true := by simp; omega
        have hne2 : ¬ (n : Int) = (m : Int) := by omega
        have hk_a_0_7 := S_2.out.cell 1 0 rfl rfl
        have hk_a_1_7 := S_2.out.cell 1 1 rfl rfl
        have hk_a_2_7 := S_2.out.cell 1 2 rfl rfl
        have hk_a_3_7 := S_2.out.cell 1 3 rfl rfl
        have hk_a_4_7 := S_2.out.cell 1 4 rfl rfl
        have hk_b_0_7 := S_2.out.cell 0 0 rfl rfl
        have hk_b_1_7 := S_2.out.cell 0 1 rfl rfl
        have hk_b_2_7 := S_2.out.cell 0 2 rfl rfl
        have hk_b_3_7 := S_2.out.cell 0 3 rfl rfl
        have hk_b_4_7 := S_2.out.cell 0 4 rfl rfl
        go_wp2
        all_goals go_ret
        all_goals exact ret_b HE2.out S_2.out.below
    · rw [Bool.not_eq_true] at g1
      have HE := Lib.hid (HF.out g1)
      subst g1
      go_wp2
      all_goals go_ret
      all_goals exact ret_b HE.out S_2.out.below
  · have hq2 : (N != M) = true := by simpa using h0
    have HE := Lib.hid (HN.out h0)
    clear h0
    go_enter Try.func5, Try.ntmps5
    go_wp2
    all_goals go_ret
    all_goals exact ret_b HE.out S_1.out.below
end Go.Proofs.Ytpdggdakkdenoaa
