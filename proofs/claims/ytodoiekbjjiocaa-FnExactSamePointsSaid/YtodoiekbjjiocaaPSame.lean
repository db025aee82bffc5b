/- SamePoints of both sides. Conditions: none. -/
import Derived.Test.YtodoiekbjjiocaaRecPoint
import Derived.Test.YtodoiekbjjiocaaHand
namespace Go.Proofs.Ytodoiekbjjiocaa
open Go.RowKit Nt Fr
set_option linter.unusedVariables false

/-- Are two points the same? -/
def pX (d : List Int × List Fr) : Fr := d.2.headD ⟨false, [], []⟩
def pY (d : List Int × List Fr) : Fr := (d.2.drop 1).headD ⟨false, [], []⟩
def samePo (P Q V U : Fr) : Bool := P.same V && Q.same U
def sameDp (x y : List Int × List Fr) : Bool := samePo (pX x) (pY x) (pX y) (pY y)
def sameDps : List (List Int × List Fr) → List (List Int × List Fr) → Bool
  | [], [] => true
  | x :: r, y :: s => sameDp x y && sameDps r s
  | _, _ => false
theorem sameDps_len {a b : List (List Int × List Fr)} (h : a.length ≠ b.length) : sameDps a b = false := by
  induction a generalizing b with
  | nil => cases b with
    | nil => exact absurd rfl h
    | cons y s => rfl
  | cons x r ih => cases b with
    | nil => rfl
    | cons y s => simp only [sameDps, ih (b := s) (by simpa using h), Bool.and_false]
theorem sameDps_bad {a b : List (List Int × List Fr)} {k : Nat} {x y : List Int × List Fr} (h1 : a[k]? = some x) (h2 : b[k]? = some y) (h : sameDp x y = false) : sameDps a b = false := by
  induction a generalizing b k with
  | nil => simp at h1
  | cons u r ih => cases b with
    | nil => rfl
    | cons v s => cases k with
      | zero => simp at h1 h2; subst h1 h2; simp [sameDps, h]
      | succ k => simp at h1 h2; simp [sameDps, ih h1 h2]
theorem sameDps_all {a b : List (List Int × List Fr)} (hl : a.length = b.length) (h : ∀ (k : Nat) (x y : List Int × List Fr), a[k]? = some x → b[k]? = some y → sameDp x y = true) : sameDps a b = true := by
  induction a generalizing b with
  | nil => cases b with
    | nil => rfl
    | cons y s => simp at hl
  | cons x r ih => cases b with
    | nil => simp at hl
    | cons y s => simp only [sameDps, h 0 x y rfl rfl, Bool.true_and]; exact ih (by simpa using hl) (fun k u v hu hv => h (k + 1) u v (by simpa using hu) (by simpa using hv))
theorem RArg.at_p {S ni nf : Nat} {w : World} {A : Option Addr} {n : Nat} {zs : List Rc} (h : RArg S ni nf w A n zs) {k : Nat} (hk : k < n) : ∃ g o z, A = some ⟨g, o, none⟩ ∧ g < w.heap.size ∧ zs[k]? = some z ∧ z.ra w ∧ z.sh ni nf ∧ ∀ (j : Nat) (v : Value), (z.cells)[j]? = some v → w.cell? ⟨g, o + k * S + j, none⟩ = some v := by
  obtain ⟨g, o, z, e, hg, hz, _, hs, hc⟩ := h.row.at_ hk
  exact ⟨g, o, z, e, hg, hz, h.arg z (List.mem_of_getElem? hz), hs, hc⟩
theorem datp_get {zs : List Rc} {k : Nat} {z : Rc} (h : zs[k]? = some z) : (dats zs)[k]? = some z.dat := by simp [dats, h]
theorem Rc.shapesP {w : World} {z : Rc} (hs : z.sh 0 2) (h : z.ra w) : ∃ P Q a0 n0 c0 a1 n1 c1 a2 n2 c2 a3 n3 c3, z = ⟨[], [(P, .slice a0 n0 c0, .slice a1 n1 c1), (Q, .slice a2 n2 c2, .slice a3 n3 c3)]⟩ := by
  obtain ⟨P, p0, p1, Q, q0, q1, rfl⟩ := Rc.sh02 hs
  obtain ⟨a0, n0, c0, a1, n1, c1, h1, h2⟩ := (h (P, p0, p1) (by simp)).shape
  obtain ⟨a2, n2, c2, a3, n3, c3, h3, h4⟩ := (h (Q, q0, q1) (by simp)).shape
  simp only at h1 h2 h3 h4
  subst h1 h2 h3 h4
  exact ⟨_, _, _, _, _, _, _, _, _, _, _, _, _, _, rfl⟩
set_option maxRecDepth 100000 in
set_option maxHeartbeats 4000000 in
theorem samePoint_f (P Q : Fr) (y0 y1 y2 y3 : Value) (V U : Fr) (z0 z1 z2 z3 : Value) (w : World) (hL0 : FrA w P y0 y1) (hL1 : FrA w Q y2 y3) (hM0 : FrA w V z0 z1) (hM1 : FrA w U z2 z3) :
    Calls Try.prog 13 #[.agg #[.bool P.s, y0, y1, .bool Q.s, y2, y3], .agg #[.bool V.s, z0, z1, .bool U.s, z2, z3]] w fun e w' => e = .returned (.bool (samePo P Q V U)) ∧ Below w.heap.size w w' := by
  have HL0 := Lib.hid hL0
  have HM0 := Lib.hid hM0
  have HL1 := Lib.hid hL1
  have HM1 := Lib.hid hM1
  clear hL0 hL1 hM0 hM1
  obtain ⟨s1, hs1⟩ : ∃ z, P.same V = z := ⟨_, rfl⟩
  obtain ⟨s2, hs2⟩ : ∃ z, Q.same U = z := ⟨_, rfl⟩
  obtain ⟨ans, hans⟩ : ∃ z, samePo P Q V U = z := ⟨_, rfl⟩
  have HE := Lib.hid (show (s1 && s2) = ans by rw [← hans, ← hs1, ← hs2]; rfl)
  rw [hans]
  have H1 := Lib.hid hs1
  have H2 := Lib.hid hs2
  clear hs1 hs2 hans
  have S_1 := Lib.hid (show St w ((w.alloc (.cells #[.bool P.s, y0, y1, .bool Q.s, y2, y3] 40)).alloc (.cells #[.bool V.s, z0, z1, .bool U.s, z2, z3] 40)) [(w.heap.size + 1, [.bool V.s, z0, z1, .bool U.s, z2, z3]), (w.heap.size, [.bool P.s, y0, y1, .bool Q.s, y2, y3])] [] from (((St.start w).alloc_at (b := w.heap.size) [.bool P.s, y0, y1, .bool Q.s, y2, y3] 40 (by first | rfl | simp)).alloc_at (b := w.heap.size + 1) [.bool V.s, z0, z1, .bool U.s, z2, z3] 40 (by first | rfl | simp)))
  have hne_b_a : w.heap.size + 1 ≠ w.heap.size := by omega
  have hne_a_b : w.heap.size ≠ w.heap.size + 1 := by omega
  go_enter Try.func13, Try.ntmps13
  go_wp2_with fail
  refine (ratEqual_i P V y0 y1 z0 z1 _ (S_1.out.frA HL0.out) (S_1.out.frA HM0.out)).mono ?_
  rintro e w1 ⟨rfl, hb⟩
  have S_2 := Lib.hid (S_1.out.call hb)
  clear S_1
  clear hb
  rw [H1.out]
  by_cases g1 : s1 = true
  · subst g1
    have hk_a_0_2 := S_2.out.cell 1 0 rfl rfl
    have hk_a_1_2 := S_2.out.cell 1 1 rfl rfl
    have hk_a_2_2 := S_2.out.cell 1 2 rfl rfl
    have hk_a_3_2 := S_2.out.cell 1 3 rfl rfl
    have hk_a_4_2 := S_2.out.cell 1 4 rfl rfl
    have hk_a_5_2 := S_2.out.cell 1 5 rfl rfl
    have hk_b_0_2 := S_2.out.cell 0 0 rfl rfl
    have hk_b_1_2 := S_2.out.cell 0 1 rfl rfl
    have hk_b_2_2 := S_2.out.cell 0 2 rfl rfl
    have hk_b_3_2 := S_2.out.cell 0 3 rfl rfl
    have hk_b_4_2 := S_2.out.cell 0 4 rfl rfl
    have hk_b_5_2 := S_2.out.cell 0 5 rfl rfl
    go_wp2_with fail
    refine (ratEqual_i Q U y2 y3 z2 z3 _ (S_2.out.frA HL1.out) (S_2.out.frA HM1.out)).mono ?_
    rintro e w2 ⟨rfl, hb⟩
    have S_3 := Lib.hid (S_2.out.call hb)
    clear S_2
    clear hb
    rw [H2.out]
    clear hk_a_0_2 hk_a_1_2 hk_a_2_2 hk_a_3_2 hk_a_4_2 hk_a_5_2 hk_b_0_2 hk_b_1_2 hk_b_2_2 hk_b_3_2 hk_b_4_2 hk_b_5_2
    go_wp2
    all_goals go_ret
    all_goals exact ret_b (by rw [← HE.out]; rfl) S_3.out.below
  · rw [Bool.not_eq_true] at g1
    subst g1
    go_wp2
    all_goals go_ret
    all_goals exact ret_b (by rw [← HE.out]; rfl) S_2.out.below
set_option maxRecDepth 100000 in
set_option maxHeartbeats 4000000 in
theorem equalFuncPo_f (A B : Option Addr) (n m c d : Nat) (ys zs : List Rc) (w : World) (hA : RArg 6 0 2 w A n ys) (hB : RArg 6 0 2 w B m zs) (hn : n ≤ 1048576) (hm : m ≤ 1048576) :
    Calls Try.prog 12 #[.slice A n c, .slice B m d, .func (.func 13) #[] #[]] w fun e w' => e = .returned (.bool (sameDps (dats ys) (dats zs))) ∧ Below w.heap.size w w' := by
  have HA := Lib.hid hA
  have HB := Lib.hid hB
  have HLA := Lib.hid (show (dats ys).length = n by rw [dats_len]; exact hA.row.len)
  have HLB := Lib.hid (show (dats zs).length = m by rw [dats_len]; exact hB.row.len)
  clear hA hB
  by_cases hnm : n = m
  · subst hnm
    go_enter Try.func12, Try.ntmps12
    go_wp2
    go_loopw [17] (fun i wr => ∃ k : Nat, k ≤ n ∧ i = .int .i64 k ∧ (∀ (j : Nat) (x y : List Int × List Fr), j < k → (dats ys)[j]? = some x → (dats zs)[j]? = some y → sameDp x y = true) ∧ Below w.heap.size w wr) (fun i _ => n - (intOf i).toNat)
    case atStart => exact ⟨0, Nat.zero_le _, rfl, fun j x y hj => by omega, Below.refl _ _⟩
    case round =>
      obtain ⟨k, hk, rfl, hlt, hb⟩ := hrel
      have HT := Lib.hid hlt
      have HW := Lib.hid hb
      clear hlt hb
      by_cases hkn : k < n
      · obtain ⟨g, o, y, rfl, hg, hy, hry, hsy, hcy⟩ := (HA.out.below HW.out).at_p hkn
        obtain ⟨g', o', z, rfl, hg', hz, hrz, hsz, hcz⟩ := (HB.out.below HW.out).at_p hkn
        obtain ⟨YP, YQ, a0, n0, d0, a1, n1, d1, a2, n2, d2, a3, n3, d3, rfl⟩ := Rc.shapesP hsy hry
        obtain ⟨ZP, ZQ, e0, m0, h0, e1, m1, h1, e2, m2, h2, e3, m3, h3, rfl⟩ := Rc.shapesP hsz hrz
        have hk0 : (0 : Int) ≤ (k : Int) := by omega
        have hk1 : (k : Int) < (n : Int) := by omega
        have HRY := Lib.hid hry
        have HRZ := Lib.hid hrz
        obtain ⟨r, hr⟩ : ∃ q, samePo YP YQ ZP ZQ = q := ⟨_, rfl⟩
        have HBAD := Lib.hid (show r = false → sameDps (dats ys) (dats zs) = false by intro h; exact sameDps_bad (datp_get hy) (datp_get hz) (show samePo YP YQ ZP ZQ = false from hr.trans h))
        have HGOOD := Lib.hid (show r = true → ∀ (j : Nat) (x y : List Int × List Fr), j < k + 1 → (dats ys)[j]? = some x → (dats zs)[j]? = some y → sameDp x y = true by
          intro h j x y hj hx hy'
          by_cases e : j = k
          · subst e
            obtain rfl := Option.some.inj ((datp_get hy).symm.trans hx)
            obtain rfl := Option.some.inj ((datp_get hz).symm.trans hy')
            exact (show samePo YP YQ ZP ZQ = true from hr.trans h)
          · exact HT.out j x y (by omega) hx hy')
        have HR := Lib.hid hr
        have c0 : wr.cell? ⟨g, o + k * 6, none⟩ = some (.bool YP.s) := hcy 0 _ rfl
        have c1 : wr.cell? ⟨g, o + k * 6 + 1, none⟩ = some ((.slice a0 n0 d0)) := hcy 1 _ rfl
        have c2 : wr.cell? ⟨g, o + k * 6 + 2, none⟩ = some ((.slice a1 n1 d1)) := hcy 2 _ rfl
        have c3 : wr.cell? ⟨g, o + k * 6 + 3, none⟩ = some (.bool YQ.s) := hcy 3 _ rfl
        have c4 : wr.cell? ⟨g, o + k * 6 + 4, none⟩ = some ((.slice a2 n2 d2)) := hcy 4 _ rfl
        have c5 : wr.cell? ⟨g, o + k * 6 + 5, none⟩ = some ((.slice a3 n3 d3)) := hcy 5 _ rfl
        have x0 : wr.cell? ⟨g', o' + k * 6, none⟩ = some (.bool ZP.s) := hcz 0 _ rfl
        have x1 : wr.cell? ⟨g', o' + k * 6 + 1, none⟩ = some ((.slice e0 m0 h0)) := hcz 1 _ rfl
        have x2 : wr.cell? ⟨g', o' + k * 6 + 2, none⟩ = some ((.slice e1 m1 h1)) := hcz 2 _ rfl
        have x3 : wr.cell? ⟨g', o' + k * 6 + 3, none⟩ = some (.bool ZQ.s) := hcz 3 _ rfl
        have x4 : wr.cell? ⟨g', o' + k * 6 + 4, none⟩ = some ((.slice e2 m2 h2)) := hcz 4 _ rfl
        have x5 : wr.cell? ⟨g', o' + k * 6 + 5, none⟩ = some ((.slice e3 m3 h3)) := hcz 5 _ rfl
        clear hy hz hry hrz hcy hcz hr hsy hsz
        go_wp2_with fail
        have B2 := Lib.hid (show Below wr.heap.size wr ((wr.alloc (.cells #[.bool YP.s, (.slice a0 n0 d0), (.slice a1 n1 d1), .bool YQ.s, (.slice a2 n2 d2), (.slice a3 n3 d3)] 40)).alloc (.cells #[.bool ZP.s, (.slice e0 m0 h0), (.slice e1 m1 h1), .bool ZQ.s, (.slice e2 m2 h2), (.slice e3 m3 h3)] 40)) from ((Below.refl _ _).alloc (Nat.le_refl _) _).alloc (by simp) _)
        refine (samePoint_f YP YQ (.slice a0 n0 d0) (.slice a1 n1 d1) (.slice a2 n2 d2) (.slice a3 n3 d3) ZP ZQ (.slice e0 m0 h0) (.slice e1 m1 h1) (.slice e2 m2 h2) (.slice e3 m3 h3) _ (HRY.out.below B2.out (YP, .slice a0 n0 d0, .slice a1 n1 d1) (by simp)) (HRY.out.below B2.out (YQ, .slice a2 n2 d2, .slice a3 n3 d3) (by simp)) (HRZ.out.below B2.out (ZP, .slice e0 m0 h0, .slice e1 m1 h1) (by simp)) (HRZ.out.below B2.out (ZQ, .slice e2 m2 h2, .slice e3 m3 h3) (by simp))).mono ?_
        rintro e w2 ⟨rfl, hb⟩
        rw [HR.out]
        have HW2 := Lib.hid ((HW.out.trans (B2.out.mono HW.out.size)).trans (hb.mono (HW.out.trans (B2.out.mono HW.out.size)).size))
        clear hb B2 c0 x0 c1 x1 c2 x2 c3 x3 c4 x4 c5 x5
        cases r with
        | false =>
          have HE := Lib.hid (HBAD.out rfl)
          go_wp2
          go_ret
          exact ⟨ret_bool HE.out.symm, HW2.out⟩
        | true =>
          have HT2 := Lib.hid (HGOOD.out rfl)
          go_wp2
          exact ⟨⟨k + 1, by omega, by go_num, HT2.out, HW2.out⟩, by simp [intOf]; omega⟩
      · obtain rfl : k = n := by omega
        have HE := Lib.hid (show true = sameDps (dats ys) (dats zs) from (sameDps_all (HLA.out.trans HLB.out.symm) (fun j x y hx hy => HT.out j x y (by have := (List.getElem?_eq_some_iff.mp hx).1; have := HLA.out; omega) hx hy)).symm)
        go_wp2
        go_ret
        exact ⟨ret_bool HE.out, HW.out⟩
  · have HE := Lib.hid (show false = sameDps (dats ys) (dats zs) from (sameDps_len (by rw [HLA.out, HLB.out]; exact hnm)).symm)
    have hne : ((n : Int) != (m : Int)) = true := by simp; omega
    have hne2 : ¬ (n : Int) = (m : Int) := by omega
    go_enter Try.func12, Try.ntmps12
    go_wp2
    go_ret
    exact ⟨ret_bool HE.out, Below.refl _ _⟩
set_option maxRecDepth 100000 in
set_option maxHeartbeats 4000000 in
theorem samePoints_i (A B : Option Addr) (n m c d : Nat) (ys zs : List Rc) (w : World) (hA : RArg 6 0 2 w A n ys) (hB : RArg 6 0 2 w B m zs) (hn : n ≤ 1048576) (hm : m ≤ 1048576) :
    Calls Try.prog 7 #[.slice A n c, .slice B m d] w fun e w' => e = .returned (.bool (sameDps (dats ys) (dats zs))) ∧ Below w.heap.size w w' := by
  have HA := Lib.hid hA
  have HB := Lib.hid hB
  clear hA hB
  go_enter Try.func7, Try.ntmps7
  go_wp2_with fail
  refine (equalFuncPo_f A B n m c d ys zs _ HA.out HB.out hn hm).mono ?_
  rintro e w2 ⟨rfl, hb⟩
  go_wp2
  go_ret
  exact ⟨rfl, hb⟩
set_option maxRecDepth 100000 in
set_option maxHeartbeats 4000000 in
theorem samePoints_s (A B : Option Addr) (n m c d : Nat) (ys zs : List Rc) (w : World) (hA : RArg 6 0 2 w A n ys) (hB : RArg 6 0 2 w B m zs) (hn : n ≤ 1048576) (hm : m ≤ 1048576) :
    Calls Try.prog 5 #[.slice A n c, .slice B m d] w fun e w' => e = .returned (.bool (sameDps (dats ys) (dats zs))) ∧ Below w.heap.size w w' := by
  have HA := Lib.hid hA
  have HB := Lib.hid hB
  have HLA := Lib.hid (show (dats ys).length = n by rw [dats_len]; exact hA.row.len)
  have HLB := Lib.hid (show (dats zs).length = m by rw [dats_len]; exact hB.row.len)
  clear hA hB
  by_cases hnm : n = m
  · subst hnm
    have hne : ((n : Int) != (n : Int)) = false := by simp
    go_enter Try.func5, Try.ntmps5
    go_wp2
    go_loopw [14] (fun i wr => ∃ k : Nat, k ≤ n ∧ i = .int .i64 k ∧ (∀ (j : Nat) (x y : List Int × List Fr), j < k → (dats ys)[j]? = some x → (dats zs)[j]? = some y → sameDp x y = true) ∧ Below w.heap.size w wr) (fun i _ => n - (intOf i).toNat)
    case atStart => exact ⟨0, Nat.zero_le _, rfl, fun j x y hj => by omega, Below.refl _ _⟩
    case round =>
      obtain ⟨k, hk, rfl, hlt, hb⟩ := hrel
      have HT := Lib.hid hlt
      have HW := Lib.hid hb
      clear hlt hb
      by_cases hkn : k < n
      · obtain ⟨g, o, y, rfl, hg, hy, hry, hsy, hcy⟩ := (HA.out.below HW.out).at_p hkn
        obtain ⟨g', o', z, rfl, hg', hz, hrz, hsz, hcz⟩ := (HB.out.below HW.out).at_p hkn
        obtain ⟨YP, YQ, a0, n0, d0, a1, n1, d1, a2, n2, d2, a3, n3, d3, rfl⟩ := Rc.shapesP hsy hry
        obtain ⟨ZP, ZQ, e0, m0, h0, e1, m1, h1, e2, m2, h2, e3, m3, h3, rfl⟩ := Rc.shapesP hsz hrz
        have hk0 : (0 : Int) ≤ (k : Int) := by omega
        have hk1 : (k : Int) < (n : Int) := by omega
        have HRY := Lib.hid hry
        have HRZ := Lib.hid hrz
        obtain ⟨r, hr⟩ : ∃ q, samePo YP YQ ZP ZQ = q := ⟨_, rfl⟩
        have HBAD := Lib.hid (show r = false → sameDps (dats ys) (dats zs) = false by intro h; exact sameDps_bad (datp_get hy) (datp_get hz) (show samePo YP YQ ZP ZQ = false from hr.trans h))
        have HGOOD := Lib.hid (show r = true → ∀ (j : Nat) (x y : List Int × List Fr), j < k + 1 → (dats ys)[j]? = some x → (dats zs)[j]? = some y → sameDp x y = true by
          intro h j x y hj hx hy'
          by_cases e : j = k
          · subst e
            obtain rfl := Option.some.inj ((datp_get hy).symm.trans hx)
            obtain rfl := Option.some.inj ((datp_get hz).symm.trans hy')
            exact (show samePo YP YQ ZP ZQ = true from hr.trans h)
          · exact HT.out j x y (by omega) hx hy')
        have HR := Lib.hid hr
        have c0 : wr.cell? ⟨g, o + k * 6, none⟩ = some (.bool YP.s) := hcy 0 _ rfl
        have c1 : wr.cell? ⟨g, o + k * 6 + 1, none⟩ = some ((.slice a0 n0 d0)) := hcy 1 _ rfl
        have c2 : wr.cell? ⟨g, o + k * 6 + 2, none⟩ = some ((.slice a1 n1 d1)) := hcy 2 _ rfl
        have c3 : wr.cell? ⟨g, o + k * 6 + 3, none⟩ = some (.bool YQ.s) := hcy 3 _ rfl
        have c4 : wr.cell? ⟨g, o + k * 6 + 4, none⟩ = some ((.slice a2 n2 d2)) := hcy 4 _ rfl
        have c5 : wr.cell? ⟨g, o + k * 6 + 5, none⟩ = some ((.slice a3 n3 d3)) := hcy 5 _ rfl
        have x0 : wr.cell? ⟨g', o' + k * 6, none⟩ = some (.bool ZP.s) := hcz 0 _ rfl
        have x1 : wr.cell? ⟨g', o' + k * 6 + 1, none⟩ = some ((.slice e0 m0 h0)) := hcz 1 _ rfl
        have x2 : wr.cell? ⟨g', o' + k * 6 + 2, none⟩ = some ((.slice e1 m1 h1)) := hcz 2 _ rfl
        have x3 : wr.cell? ⟨g', o' + k * 6 + 3, none⟩ = some (.bool ZQ.s) := hcz 3 _ rfl
        have x4 : wr.cell? ⟨g', o' + k * 6 + 4, none⟩ = some ((.slice e2 m2 h2)) := hcz 4 _ rfl
        have x5 : wr.cell? ⟨g', o' + k * 6 + 5, none⟩ = some ((.slice e3 m3 h3)) := hcz 5 _ rfl
        clear hy hz hry hrz hcy hcz hr hsy hsz
        have S_1 := Lib.hid ((St.start wr).alloc [.bool YP.s, (.slice a0 n0 d0), (.slice a1 n1 d1), .bool YQ.s, (.slice a2 n2 d2), (.slice a3 n3 d3)] 40)
        go_wp2_with fail
        obtain ⟨q0, hq0⟩ : ∃ z, YP.same ZP = z := ⟨_, rfl⟩
        have HQ0 := Lib.hid hq0
        clear hq0
        obtain ⟨q1, hq1⟩ : ∃ z, YQ.same ZQ = z := ⟨_, rfl⟩
        have HQ1 := Lib.hid hq1
        clear hq1
        by_cases k0 : q0 = true
        · subst k0
          by_cases k1 : q1 = true
          · subst k1
            have mkS_2 : ∀ (w' : World) (cs' : List Chunk), St wr w' [(wr.heap.size, [.bool YP.s, (.slice a0 n0 d0), (.slice a1 n1 d1), .bool YQ.s, (.slice a2 n2 d2), (.slice a3 n3 d3)])] cs' → w'.cell? ⟨wr.heap.size, 0, none⟩ = some (.bool YP.s) ∧ w'.cell? ⟨wr.heap.size, 1, none⟩ = some ((.slice a0 n0 d0)) ∧ w'.cell? ⟨wr.heap.size, 2, none⟩ = some ((.slice a1 n1 d1)) ∧ w'.cell? ⟨wr.heap.size, 3, none⟩ = some (.bool YQ.s) ∧ w'.cell? ⟨wr.heap.size, 4, none⟩ = some ((.slice a2 n2 d2)) ∧ w'.cell? ⟨wr.heap.size, 5, none⟩ = some ((.slice a3 n3 d3)) ∧ w'.cell? ⟨g', o' + k * 6, none⟩ = some (.bool ZP.s) ∧ w'.cell? ⟨g', o' + k * 6 + 1, none⟩ = some ((.slice e0 m0 h0)) ∧ w'.cell? ⟨g', o' + k * 6 + 2, none⟩ = some ((.slice e1 m1 h1)) ∧ w'.cell? ⟨g', o' + k * 6 + 3, none⟩ = some (.bool ZQ.s) ∧ w'.cell? ⟨g', o' + k * 6 + 4, none⟩ = some ((.slice e2 m2 h2)) ∧ w'.cell? ⟨g', o' + k * 6 + 5, none⟩ = some ((.slice e3 m3 h3)) := fun w' cs' h => ⟨h.cell 0 0 rfl rfl, h.cell 0 1 rfl rfl, h.cell 0 2 rfl rfl, h.cell 0 3 rfl rfl, h.cell 0 4 rfl rfl, h.cell 0 5 rfl rfl, (h.below.cell (p := ⟨g', o' + k * 6, none⟩) hg').trans x0, (h.below.cell (p := ⟨g', o' + k * 6 + 1, none⟩) hg').trans x1, (h.below.cell (p := ⟨g', o' + k * 6 + 2, none⟩) hg').trans x2, (h.below.cell (p := ⟨g', o' + k * 6 + 3, none⟩) hg').trans x3, (h.below.cell (p := ⟨g', o' + k * 6 + 4, none⟩) hg').trans x4, (h.below.cell (p := ⟨g', o' + k * 6 + 5, none⟩) hg').trans x5⟩
            refine wp_region_noPanic ?_
            refine wp_region_held_drew (S := (fun w' => w'.cell? ⟨wr.heap.size, 0, none⟩ = some (.bool YP.s) ∧ w'.cell? ⟨wr.heap.size, 1, none⟩ = some ((.slice a0 n0 d0)) ∧ w'.cell? ⟨wr.heap.size, 2, none⟩ = some ((.slice a1 n1 d1)) ∧ w'.cell? ⟨wr.heap.size, 3, none⟩ = some (.bool YQ.s) ∧ w'.cell? ⟨wr.heap.size, 4, none⟩ = some ((.slice a2 n2 d2)) ∧ w'.cell? ⟨wr.heap.size, 5, none⟩ = some ((.slice a3 n3 d3)) ∧ w'.cell? ⟨g', o' + k * 6, none⟩ = some (.bool ZP.s) ∧ w'.cell? ⟨g', o' + k * 6 + 1, none⟩ = some ((.slice e0 m0 h0)) ∧ w'.cell? ⟨g', o' + k * 6 + 2, none⟩ = some ((.slice e1 m1 h1)) ∧ w'.cell? ⟨g', o' + k * 6 + 3, none⟩ = some (.bool ZQ.s) ∧ w'.cell? ⟨g', o' + k * 6 + 4, none⟩ = some ((.slice e2 m2 h2)) ∧ w'.cell? ⟨g', o' + k * 6 + 5, none⟩ = some ((.slice e3 m3 h3)))) (by kernel_rfl) ?_ (fun hHeld => ?_)
            · exact mkS_2 _ _ S_1.out.drew
            refine tkH 0 ?_ ⟨some 19, .fieldAddr 40 (.tmp 6) 0, 0, "l11_batch.go:107", #[], none⟩ ?_ ?_
            rotate_left
            · intro w9 hSw; (try dsimp only at hSw); go_simp; try with_reducible rfl
            try simp only [pm, s0, sS]
            refine tkH 1 ?_ ⟨some 20, .load 38 (.tmp 19), 38, "l11_batch.go:107", #[⟨0, .data⟩], none⟩ ?_ ?_
            rotate_left
            · intro w9 hSw; (try dsimp only at hSw); go_simp; try with_reducible rfl
            try simp only [pm, s0, sS]
            refine tkH 2 ?_ ⟨some 21, .move (.tmp 1), 25, "l11_batch.go:107", #[], none⟩ ?_ ?_
            rotate_left
            · intro w9 hSw; (try dsimp only at hSw); go_simp; try with_reducible rfl
            try simp only [pm, s0, sS]
            refine tkH 3 ?_ ⟨some 22, .move (.tmp 5), 3, "l11_batch.go:107", #[], none⟩ ?_ ?_
            rotate_left
            · intro w9 hSw; (try dsimp only at hSw); go_simp; try with_reducible rfl
            try simp only [pm, s0, sS]
            refine tkH 4 ?_ ⟨some 23, .indexAddr 25 (.tmp 21) (.tmp 22), 0, "l11_batch.go:107", #[⟨2, .data⟩, ⟨3, .data⟩], none⟩ ?_ ?_
            rotate_left
            · intro w9 hSw; (try dsimp only at hSw); go_simp; try with_reducible rfl
            try simp only [pm, s0, sS]
            refine tkH 5 ?_ ⟨some 24, .fieldAddr 40 (.tmp 23) 0, 0, "l11_batch.go:107", #[⟨4, .data⟩], none⟩ ?_ ?_
            rotate_left
            · intro w9 hSw; (try dsimp only at hSw); go_simp; try with_reducible rfl
            try simp only [pm, s0, sS]
            refine tkH 6 ?_ ⟨some 25, .load 38 (.tmp 24), 38, "l11_batch.go:107", #[⟨5, .data⟩], none⟩ ?_ ?_
            rotate_left
            · intro w9 hSw; (try dsimp only at hSw); go_simp; try with_reducible rfl
            try simp only [pm, s0, sS]
            refine wpAnyH_ready (rs := [7]) (by kernel_rfl) (by simp) ?_
            refine AllReadyH.cons (o := ⟨some 26, .call { callee := .value (.func 10), args := #[.tmp 20, .tmp 25], argTypes := #[38, 38] }, 4, "l11_batch.go:107", #[⟨1, .data⟩, ⟨6, .data⟩], none⟩) rfl (fun K hK => ?_) AllReadyH.nil
            go_simp
            go_at_call 10
            refine (ratEqual_s YP ZP (.slice a0 n0 d0) (.slice a1 n1 d1) (.slice e0 m0 h0) (.slice e1 m1 h1) _ (HRY.out.below S_1.out.drew.below (YP, .slice a0 n0 d0, .slice a1 n1 d1) (by simp)) (HRZ.out.below S_1.out.drew.below (ZP, .slice e0 m0 h0, .slice e1 m1 h1) (by simp))).mono ?_
            rintro e v0 ⟨rfl, hb⟩
            rw [HQ0.out]
            have S_2 := Lib.hid (S_1.out.drew.call hb)
            clear hb S_1
            refine hK.out _ _ (mkS_2 _ _ S_2.out) (fun hHeld7 => ?_)
            clear hK K
            try simp only [pm, s0, sS]
            refine tkH 8 ?_ ⟨some 27, .unOp .not 4 (.tmp 26), 4, "l11_batch.go:107", #[⟨7, .data⟩], none⟩ ?_ ?_
            rotate_left
            · intro w9 hSw; (try dsimp only at hSw); go_simp; try with_reducible rfl
            try simp only [pm, s0, sS]
            refine tkH 9 ?_ ⟨some 28, .move (.tmp 27), 4, "l11_batch.go:107", #[⟨8, .data⟩, ⟨7, .chain⟩], none⟩ ?_ ?_
            rotate_left
            · intro w9 hSw; (try dsimp only at hSw); go_simp; try with_reducible rfl
            try simp only [pm, s0, sS]
            refine tkH 10 ?_ ⟨some 29, .fieldAddr 40 (.tmp 6) 1, 0, "l11_batch.go:107", #[⟨9, .guard⟩], some (9, false)⟩ ?_ ?_
            rotate_left
            · intro w9 hSw; (try dsimp only at hSw); go_simp; try with_reducible rfl
            try simp only [pm, s0, sS]
            refine tkH 11 ?_ ⟨some 30, .load 38 (.tmp 29), 38, "l11_batch.go:107", #[⟨10, .data⟩, ⟨9, .guard⟩], some (9, false)⟩ ?_ ?_
            rotate_left
            · intro w9 hSw; (try dsimp only at hSw); go_simp; try with_reducible rfl
            try simp only [pm, s0, sS]
            refine tkH 12 ?_ ⟨some 31, .move (.tmp 1), 25, "l11_batch.go:107", #[⟨9, .guard⟩], some (9, false)⟩ ?_ ?_
            rotate_left
            · intro w9 hSw; (try dsimp only at hSw); go_simp; try with_reducible rfl
            try simp only [pm, s0, sS]
            refine tkH 13 ?_ ⟨some 32, .move (.tmp 5), 3, "l11_batch.go:107", #[⟨9, .guard⟩], some (9, false)⟩ ?_ ?_
            rotate_left
            · intro w9 hSw; (try dsimp only at hSw); go_simp; try with_reducible rfl
            try simp only [pm, s0, sS]
            refine tkH 14 ?_ ⟨some 33, .indexAddr 25 (.tmp 31) (.tmp 32), 0, "l11_batch.go:107", #[⟨12, .data⟩, ⟨13, .data⟩, ⟨9, .guard⟩], some (9, false)⟩ ?_ ?_
            rotate_left
            · intro w9 hSw; (try dsimp only at hSw); go_simp; try with_reducible rfl
            try simp only [pm, s0, sS]
            refine tkH 15 ?_ ⟨some 34, .fieldAddr 40 (.tmp 33) 1, 0, "l11_batch.go:107", #[⟨14, .data⟩, ⟨9, .guard⟩], some (9, false)⟩ ?_ ?_
            rotate_left
            · intro w9 hSw; (try dsimp only at hSw); go_simp; try with_reducible rfl
            try simp only [pm, s0, sS]
            refine tkH 16 ?_ ⟨some 35, .load 38 (.tmp 34), 38, "l11_batch.go:107", #[⟨15, .data⟩, ⟨9, .guard⟩], some (9, false)⟩ ?_ ?_
            rotate_left
            · intro w9 hSw; (try dsimp only at hSw); go_simp; try with_reducible rfl
            try simp only [pm, s0, sS]
            refine wpAnyH_ready (rs := [17]) (by kernel_rfl) (by simp) ?_
            refine AllReadyH.cons (o := ⟨some 36, .call { callee := .value (.func 10), args := #[.tmp 30, .tmp 35], argTypes := #[38, 38] }, 4, "l11_batch.go:107", #[⟨11, .data⟩, ⟨16, .data⟩, ⟨9, .chain⟩, ⟨9, .guard⟩], some (9, false)⟩) rfl (fun K hK => ?_) AllReadyH.nil
            go_simp
            go_at_call 10
            refine (ratEqual_s YQ ZQ (.slice a2 n2 d2) (.slice a3 n3 d3) (.slice e2 m2 h2) (.slice e3 m3 h3) _ (HRY.out.below S_2.out.below (YQ, .slice a2 n2 d2, .slice a3 n3 d3) (by simp)) (HRZ.out.below S_2.out.below (ZQ, .slice e2 m2 h2, .slice e3 m3 h3) (by simp))).mono ?_
            rintro e v1 ⟨rfl, hb⟩
            rw [HQ1.out]
            have S_3 := Lib.hid (S_2.out.call hb)
            clear hb S_2
            refine hK.out _ _ (mkS_2 _ _ S_3.out) (fun hHeld17 => ?_)
            clear hK K
            try simp only [pm, s0, sS]
            refine tkH 18 ?_ ⟨some 37, .unOp .not 4 (.tmp 36), 4, "l11_batch.go:107", #[⟨17, .data⟩, ⟨9, .guard⟩], some (9, false)⟩ ?_ ?_
            rotate_left
            · intro w9 hSw; (try dsimp only at hSw); go_simp; try with_reducible rfl
            try simp only [pm, s0, sS]
            refine tkH 19 ?_ ⟨some 38, .pick (.tmp 28) (.const (Value.bool true)) (.tmp 37), 4, "l11_batch.go:107", #[⟨9, .data⟩, ⟨18, .data⟩], none⟩ ?_ ?_
            rotate_left
            · intro w9 hSw; (try dsimp only at hSw); go_simp; try with_reducible rfl
            try simp only [pm, s0, sS]
            refine wpAnyH_done (by kernel_rfl) ?_ _
            refine NoPanic.normal ?_
            have HT2 := Lib.hid (HGOOD.out (by rw [← HR.out]; unfold samePo; rw [HQ0.out, HQ1.out]; rfl))
            have HW3 := Lib.hid (HW.out.trans (S_3.out.below.mono HW.out.size))
            go_wp2
            exact ⟨⟨k + 1, by omega, by go_num, HT2.out, HW3.out⟩, by simp [intOf]; omega⟩
          · rw [Bool.not_eq_true] at k1
            subst k1
            have mkS_3 : ∀ (w' : World) (cs' : List Chunk), St wr w' [(wr.heap.size, [.bool YP.s, (.slice a0 n0 d0), (.slice a1 n1 d1), .bool YQ.s, (.slice a2 n2 d2), (.slice a3 n3 d3)])] cs' → w'.cell? ⟨wr.heap.size, 0, none⟩ = some (.bool YP.s) ∧ w'.cell? ⟨wr.heap.size, 1, none⟩ = some ((.slice a0 n0 d0)) ∧ w'.cell? ⟨wr.heap.size, 2, none⟩ = some ((.slice a1 n1 d1)) ∧ w'.cell? ⟨wr.heap.size, 3, none⟩ = some (.bool YQ.s) ∧ w'.cell? ⟨wr.heap.size, 4, none⟩ = some ((.slice a2 n2 d2)) ∧ w'.cell? ⟨wr.heap.size, 5, none⟩ = some ((.slice a3 n3 d3)) ∧ w'.cell? ⟨g', o' + k * 6, none⟩ = some (.bool ZP.s) ∧ w'.cell? ⟨g', o' + k * 6 + 1, none⟩ = some ((.slice e0 m0 h0)) ∧ w'.cell? ⟨g', o' + k * 6 + 2, none⟩ = some ((.slice e1 m1 h1)) ∧ w'.cell? ⟨g', o' + k * 6 + 3, none⟩ = some (.bool ZQ.s) ∧ w'.cell? ⟨g', o' + k * 6 + 4, none⟩ = some ((.slice e2 m2 h2)) ∧ w'.cell? ⟨g', o' + k * 6 + 5, none⟩ = some ((.slice e3 m3 h3)) := fun w' cs' h => ⟨h.cell 0 0 rfl rfl, h.cell 0 1 rfl rfl, h.cell 0 2 rfl rfl, h.cell 0 3 rfl rfl, h.cell 0 4 rfl rfl, h.cell 0 5 rfl rfl, (h.below.cell (p := ⟨g', o' + k * 6, none⟩) hg').trans x0, (h.below.cell (p := ⟨g', o' + k * 6 + 1, none⟩) hg').trans x1, (h.below.cell (p := ⟨g', o' + k * 6 + 2, none⟩) hg').trans x2, (h.below.cell (p := ⟨g', o' + k * 6 + 3, none⟩) hg').trans x3, (h.below.cell (p := ⟨g', o' + k * 6 + 4, none⟩) hg').trans x4, (h.below.cell (p := ⟨g', o' + k * 6 + 5, none⟩) hg').trans x5⟩
            refine wp_region_noPanic ?_
            refine wp_region_held_drew (S := (fun w' => w'.cell? ⟨wr.heap.size, 0, none⟩ = some (.bool YP.s) ∧ w'.cell? ⟨wr.heap.size, 1, none⟩ = some ((.slice a0 n0 d0)) ∧ w'.cell? ⟨wr.heap.size, 2, none⟩ = some ((.slice a1 n1 d1)) ∧ w'.cell? ⟨wr.heap.size, 3, none⟩ = some (.bool YQ.s) ∧ w'.cell? ⟨wr.heap.size, 4, none⟩ = some ((.slice a2 n2 d2)) ∧ w'.cell? ⟨wr.heap.size, 5, none⟩ = some ((.slice a3 n3 d3)) ∧ w'.cell? ⟨g', o' + k * 6, none⟩ = some (.bool ZP.s) ∧ w'.cell? ⟨g', o' + k * 6 + 1, none⟩ = some ((.slice e0 m0 h0)) ∧ w'.cell? ⟨g', o' + k * 6 + 2, none⟩ = some ((.slice e1 m1 h1)) ∧ w'.cell? ⟨g', o' + k * 6 + 3, none⟩ = some (.bool ZQ.s) ∧ w'.cell? ⟨g', o' + k * 6 + 4, none⟩ = some ((.slice e2 m2 h2)) ∧ w'.cell? ⟨g', o' + k * 6 + 5, none⟩ = some ((.slice e3 m3 h3)))) (by kernel_rfl) ?_ (fun hHeld => ?_)
            · exact mkS_3 _ _ S_1.out.drew
            refine tkH 0 ?_ ⟨some 19, .fieldAddr 40 (.tmp 6) 0, 0, "l11_batch.go:107", #[], none⟩ ?_ ?_
            rotate_left
            · intro w9 hSw; (try dsimp only at hSw); go_simp; try with_reducible rfl
            try simp only [pm, s0, sS]
            refine tkH 1 ?_ ⟨some 20, .load 38 (.tmp 19), 38, "l11_batch.go:107", #[⟨0, .data⟩], none⟩ ?_ ?_
            rotate_left
            · intro w9 hSw; (try dsimp only at hSw); go_simp; try with_reducible rfl
            try simp only [pm, s0, sS]
            refine tkH 2 ?_ ⟨some 21, .move (.tmp 1), 25, "l11_batch.go:107", #[], none⟩ ?_ ?_
            rotate_left
            · intro w9 hSw; (try dsimp only at hSw); go_simp; try with_reducible rfl
            try simp only [pm, s0, sS]
            refine tkH 3 ?_ ⟨some 22, .move (.tmp 5), 3, "l11_batch.go:107", #[], none⟩ ?_ ?_
            rotate_left
            · intro w9 hSw; (try dsimp only at hSw); go_simp; try with_reducible rfl
            try simp only [pm, s0, sS]
            refine tkH 4 ?_ ⟨some 23, .indexAddr 25 (.tmp 21) (.tmp 22), 0, "l11_batch.go:107", #[⟨2, .data⟩, ⟨3, .data⟩], none⟩ ?_ ?_
            rotate_left
            · intro w9 hSw; (try dsimp only at hSw); go_simp; try with_reducible rfl
            try simp only [pm, s0, sS]
            refine tkH 5 ?_ ⟨some 24, .fieldAddr 40 (.tmp 23) 0, 0, "l11_batch.go:107", #[⟨4, .data⟩], none⟩ ?_ ?_
            rotate_left
            · intro w9 hSw; (try dsimp only at hSw); go_simp; try with_reducible rfl
            try simp only [pm, s0, sS]
            refine tkH 6 ?_ ⟨some 25, .load 38 (.tmp 24), 38, "l11_batch.go:107", #[⟨5, .data⟩], none⟩ ?_ ?_
            rotate_left
            · intro w9 hSw; (try dsimp only at hSw); go_simp; try with_reducible rfl
            try simp only [pm, s0, sS]
            refine wpAnyH_ready (rs := [7]) (by kernel_rfl) (by simp) ?_
            refine AllReadyH.cons (o := ⟨some 26, .call { callee := .value (.func 10), args := #[.tmp 20, .tmp 25], argTypes := #[38, 38] }, 4, "l11_batch.go:107", #[⟨1, .data⟩, ⟨6, .data⟩], none⟩) rfl (fun K hK => ?_) AllReadyH.nil
            go_simp
            go_at_call 10
            refine (ratEqual_s YP ZP (.slice a0 n0 d0) (.slice a1 n1 d1) (.slice e0 m0 h0) (.slice e1 m1 h1) _ (HRY.out.below S_1.out.drew.below (YP, .slice a0 n0 d0, .slice a1 n1 d1) (by simp)) (HRZ.out.below S_1.out.drew.below (ZP, .slice e0 m0 h0, .slice e1 m1 h1) (by simp))).mono ?_
            rintro e v0 ⟨rfl, hb⟩
            rw [HQ0.out]
            have S_3 := Lib.hid (S_1.out.drew.call hb)
            clear hb S_1
            refine hK.out _ _ (mkS_3 _ _ S_3.out) (fun hHeld7 => ?_)
            clear hK K
            try simp only [pm, s0, sS]
            refine tkH 8 ?_ ⟨some 27, .unOp .not 4 (.tmp 26), 4, "l11_batch.go:107", #[⟨7, .data⟩], none⟩ ?_ ?_
            rotate_left
            · intro w9 hSw; (try dsimp only at hSw); go_simp; try with_reducible rfl
            try simp only [pm, s0, sS]
            refine tkH 9 ?_ ⟨some 28, .move (.tmp 27), 4, "l11_batch.go:107", #[⟨8, .data⟩, ⟨7, .chain⟩], none⟩ ?_ ?_
            rotate_left
            · intro w9 hSw; (try dsimp only at hSw); go_simp; try with_reducible rfl
            try simp only [pm, s0, sS]
            refine tkH 10 ?_ ⟨some 29, .fieldAddr 40 (.tmp 6) 1, 0, "l11_batch.go:107", #[⟨9, .guard⟩], some (9, false)⟩ ?_ ?_
            rotate_left
            · intro w9 hSw; (try dsimp only at hSw); go_simp; try with_reducible rfl
            try simp only [pm, s0, sS]
            refine tkH 11 ?_ ⟨some 30, .load 38 (.tmp 29), 38, "l11_batch.go:107", #[⟨10, .data⟩, ⟨9, .guard⟩], some (9, false)⟩ ?_ ?_
            rotate_left
            · intro w9 hSw; (try dsimp only at hSw); go_simp; try with_reducible rfl
            try simp only [pm, s0, sS]
            refine tkH 12 ?_ ⟨some 31, .move (.tmp 1), 25, "l11_batch.go:107", #[⟨9, .guard⟩], some (9, false)⟩ ?_ ?_
            rotate_left
            · intro w9 hSw; (try dsimp only at hSw); go_simp; try with_reducible rfl
            try simp only [pm, s0, sS]
            refine tkH 13 ?_ ⟨some 32, .move (.tmp 5), 3, "l11_batch.go:107", #[⟨9, .guard⟩], some (9, false)⟩ ?_ ?_
            rotate_left
            · intro w9 hSw; (try dsimp only at hSw); go_simp; try with_reducible rfl
            try simp only [pm, s0, sS]
            refine tkH 14 ?_ ⟨some 33, .indexAddr 25 (.tmp 31) (.tmp 32), 0, "l11_batch.go:107", #[⟨12, .data⟩, ⟨13, .data⟩, ⟨9, .guard⟩], some (9, false)⟩ ?_ ?_
            rotate_left
            · intro w9 hSw; (try dsimp only at hSw); go_simp; try with_reducible rfl
            try simp only [pm, s0, sS]
            refine tkH 15 ?_ ⟨some 34, .fieldAddr 40 (.tmp 33) 1, 0, "l11_batch.go:107", #[⟨14, .data⟩, ⟨9, .guard⟩], some (9, false)⟩ ?_ ?_
            rotate_left
            · intro w9 hSw; (try dsimp only at hSw); go_simp; try with_reducible rfl
            try simp only [pm, s0, sS]
            refine tkH 16 ?_ ⟨some 35, .load 38 (.tmp 34), 38, "l11_batch.go:107", #[⟨15, .data⟩, ⟨9, .guard⟩], some (9, false)⟩ ?_ ?_
            rotate_left
            · intro w9 hSw; (try dsimp only at hSw); go_simp; try with_reducible rfl
            try simp only [pm, s0, sS]
            refine wpAnyH_ready (rs := [17]) (by kernel_rfl) (by simp) ?_
            refine AllReadyH.cons (o := ⟨some 36, .call { callee := .value (.func 10), args := #[.tmp 30, .tmp 35], argTypes := #[38, 38] }, 4, "l11_batch.go:107", #[⟨11, .data⟩, ⟨16, .data⟩, ⟨9, .chain⟩, ⟨9, .guard⟩], some (9, false)⟩) rfl (fun K hK => ?_) AllReadyH.nil
            go_simp
            go_at_call 10
            refine (ratEqual_s YQ ZQ (.slice a2 n2 d2) (.slice a3 n3 d3) (.slice e2 m2 h2) (.slice e3 m3 h3) _ (HRY.out.below S_3.out.below (YQ, .slice a2 n2 d2, .slice a3 n3 d3) (by simp)) (HRZ.out.below S_3.out.below (ZQ, .slice e2 m2 h2, .slice e3 m3 h3) (by simp))).mono ?_
            rintro e v1 ⟨rfl, hb⟩
            rw [HQ1.out]
            have S_4 := Lib.hid (S_3.out.call hb)
            clear hb S_3
            refine hK.out _ _ (mkS_3 _ _ S_4.out) (fun hHeld17 => ?_)
            clear hK K
            try simp only [pm, s0, sS]
            refine tkH 18 ?_ ⟨some 37, .unOp .not 4 (.tmp 36), 4, "l11_batch.go:107", #[⟨17, .data⟩, ⟨9, .guard⟩], some (9, false)⟩ ?_ ?_
            rotate_left
            · intro w9 hSw; (try dsimp only at hSw); go_simp; try with_reducible rfl
            try simp only [pm, s0, sS]
            refine tkH 19 ?_ ⟨some 38, .pick (.tmp 28) (.const (Value.bool true)) (.tmp 37), 4, "l11_batch.go:107", #[⟨9, .data⟩, ⟨18, .data⟩], none⟩ ?_ ?_
            rotate_left
            · intro w9 hSw; (try dsimp only at hSw); go_simp; try with_reducible rfl
            try simp only [pm, s0, sS]
            refine wpAnyH_done (by kernel_rfl) ?_ _
            refine NoPanic.normal ?_
            have HE2 := Lib.hid (show false = sameDps (dats ys) (dats zs) from (HBAD.out (by rw [← HR.out]; unfold samePo; rw [HQ0.out, HQ1.out]; rfl)).symm)
            have HW3 := Lib.hid (HW.out.trans (S_4.out.below.mono HW.out.size))
            go_wp2
            go_ret
            exact ⟨ret_bool HE2.out, HW3.out⟩
        · rw [Bool.not_eq_true] at k0
          subst k0
          have mkS_4 : ∀ (w' : World) (cs' : List Chunk), St wr w' [(wr.heap.size, [.bool YP.s, (.slice a0 n0 d0), (.slice a1 n1 d1), .bool YQ.s, (.slice a2 n2 d2), (.slice a3 n3 d3)])] cs' → w'.cell? ⟨wr.heap.size, 0, none⟩ = some (.bool YP.s) ∧ w'.cell? ⟨wr.heap.size, 1, none⟩ = some ((.slice a0 n0 d0)) ∧ w'.cell? ⟨wr.heap.size, 2, none⟩ = some ((.slice a1 n1 d1)) ∧ w'.cell? ⟨wr.heap.size, 3, none⟩ = some (.bool YQ.s) ∧ w'.cell? ⟨wr.heap.size, 4, none⟩ = some ((.slice a2 n2 d2)) ∧ w'.cell? ⟨wr.heap.size, 5, none⟩ = some ((.slice a3 n3 d3)) ∧ w'.cell? ⟨g', o' + k * 6, none⟩ = some (.bool ZP.s) ∧ w'.cell? ⟨g', o' + k * 6 + 1, none⟩ = some ((.slice e0 m0 h0)) ∧ w'.cell? ⟨g', o' + k * 6 + 2, none⟩ = some ((.slice e1 m1 h1)) ∧ w'.cell? ⟨g', o' + k * 6 + 3, none⟩ = some (.bool ZQ.s) ∧ w'.cell? ⟨g', o' + k * 6 + 4, none⟩ = some ((.slice e2 m2 h2)) ∧ w'.cell? ⟨g', o' + k * 6 + 5, none⟩ = some ((.slice e3 m3 h3)) := fun w' cs' h => ⟨h.cell 0 0 rfl rfl, h.cell 0 1 rfl rfl, h.cell 0 2 rfl rfl, h.cell 0 3 rfl rfl, h.cell 0 4 rfl rfl, h.cell 0 5 rfl rfl, (h.below.cell (p := ⟨g', o' + k * 6, none⟩) hg').trans x0, (h.below.cell (p := ⟨g', o' + k * 6 + 1, none⟩) hg').trans x1, (h.below.cell (p := ⟨g', o' + k * 6 + 2, none⟩) hg').trans x2, (h.below.cell (p := ⟨g', o' + k * 6 + 3, none⟩) hg').trans x3, (h.below.cell (p := ⟨g', o' + k * 6 + 4, none⟩) hg').trans x4, (h.below.cell (p := ⟨g', o' + k * 6 + 5, none⟩) hg').trans x5⟩
          refine wp_region_noPanic ?_
          refine wp_region_held_drew (S := (fun w' => w'.cell? ⟨wr.heap.size, 0, none⟩ = some (.bool YP.s) ∧ w'.cell? ⟨wr.heap.size, 1, none⟩ = some ((.slice a0 n0 d0)) ∧ w'.cell? ⟨wr.heap.size, 2, none⟩ = some ((.slice a1 n1 d1)) ∧ w'.cell? ⟨wr.heap.size, 3, none⟩ = some (.bool YQ.s) ∧ w'.cell? ⟨wr.heap.size, 4, none⟩ = some ((.slice a2 n2 d2)) ∧ w'.cell? ⟨wr.heap.size, 5, none⟩ = some ((.slice a3 n3 d3)) ∧ w'.cell? ⟨g', o' + k * 6, none⟩ = some (.bool ZP.s) ∧ w'.cell? ⟨g', o' + k * 6 + 1, none⟩ = some ((.slice e0 m0 h0)) ∧ w'.cell? ⟨g', o' + k * 6 + 2, none⟩ = some ((.slice e1 m1 h1)) ∧ w'.cell? ⟨g', o' + k * 6 + 3, none⟩ = some (.bool ZQ.s) ∧ w'.cell? ⟨g', o' + k * 6 + 4, none⟩ = some ((.slice e2 m2 h2)) ∧ w'.cell? ⟨g', o' + k * 6 + 5, none⟩ = some ((.slice e3 m3 h3)))) (by kernel_rfl) ?_ (fun hHeld => ?_)
          · exact mkS_4 _ _ S_1.out.drew
          refine tkH 0 ?_ ⟨some 19, .fieldAddr 40 (.tmp 6) 0, 0, "l11_batch.go:107", #[], none⟩ ?_ ?_
          rotate_left
          · intro w9 hSw; (try dsimp only at hSw); go_simp; try with_reducible rfl
          try simp only [pm, s0, sS]
          refine tkH 1 ?_ ⟨some 20, .load 38 (.tmp 19), 38, "l11_batch.go:107", #[⟨0, .data⟩], none⟩ ?_ ?_
          rotate_left
          · intro w9 hSw; (try dsimp only at hSw); go_simp; try with_reducible rfl
          try simp only [pm, s0, sS]
          refine tkH 2 ?_ ⟨some 21, .move (.tmp 1), 25, "l11_batch.go:107", #[], none⟩ ?_ ?_
          rotate_left
          · intro w9 hSw; (try dsimp only at hSw); go_simp; try with_reducible rfl
          try simp only [pm, s0, sS]
          refine tkH 3 ?_ ⟨some 22, .move (.tmp 5), 3, "l11_batch.go:107", #[], none⟩ ?_ ?_
          rotate_left
          · intro w9 hSw; (try dsimp only at hSw); go_simp; try with_reducible rfl
          try simp only [pm, s0, sS]
          refine tkH 4 ?_ ⟨some 23, .indexAddr 25 (.tmp 21) (.tmp 22), 0, "l11_batch.go:107", #[⟨2, .data⟩, ⟨3, .data⟩], none⟩ ?_ ?_
          rotate_left
          · intro w9 hSw; (try dsimp only at hSw); go_simp; try with_reducible rfl
          try simp only [pm, s0, sS]
          refine tkH 5 ?_ ⟨some 24, .fieldAddr 40 (.tmp 23) 0, 0, "l11_batch.go:107", #[⟨4, .data⟩], none⟩ ?_ ?_
          rotate_left
          · intro w9 hSw; (try dsimp only at hSw); go_simp; try with_reducible rfl
          try simp only [pm, s0, sS]
          refine tkH 6 ?_ ⟨some 25, .load 38 (.tmp 24), 38, "l11_batch.go:107", #[⟨5, .data⟩], none⟩ ?_ ?_
          rotate_left
          · intro w9 hSw; (try dsimp only at hSw); go_simp; try with_reducible rfl
          try simp only [pm, s0, sS]
          refine wpAnyH_ready (rs := [7]) (by kernel_rfl) (by simp) ?_
          refine AllReadyH.cons (o := ⟨some 26, .call { callee := .value (.func 10), args := #[.tmp 20, .tmp 25], argTypes := #[38, 38] }, 4, "l11_batch.go:107", #[⟨1, .data⟩, ⟨6, .data⟩], none⟩) rfl (fun K hK => ?_) AllReadyH.nil
          go_simp
          go_at_call 10
          refine (ratEqual_s YP ZP (.slice a0 n0 d0) (.slice a1 n1 d1) (.slice e0 m0 h0) (.slice e1 m1 h1) _ (HRY.out.below S_1.out.drew.below (YP, .slice a0 n0 d0, .slice a1 n1 d1) (by simp)) (HRZ.out.below S_1.out.drew.below (ZP, .slice e0 m0 h0, .slice e1 m1 h1) (by simp))).mono ?_
          rintro e v0 ⟨rfl, hb⟩
          rw [HQ0.out]
          have S_4 := Lib.hid (S_1.out.drew.call hb)
          clear hb S_1
          refine hK.out _ _ (mkS_4 _ _ S_4.out) (fun hHeld7 => ?_)
          clear hK K
          try simp only [pm, s0, sS]
          refine tkH 8 ?_ ⟨some 27, .unOp .not 4 (.tmp 26), 4, "l11_batch.go:107", #[⟨7, .data⟩], none⟩ ?_ ?_
          rotate_left
          · intro w9 hSw; (try dsimp only at hSw); go_simp; try with_reducible rfl
          try simp only [pm, s0, sS]
          refine tkH 9 ?_ ⟨some 28, .move (.tmp 27), 4, "l11_batch.go:107", #[⟨8, .data⟩, ⟨7, .chain⟩], none⟩ ?_ ?_
          rotate_left
          · intro w9 hSw; (try dsimp only at hSw); go_simp; try with_reducible rfl
          try simp only [pm, s0, sS]
          refine tkN 10 ⟨some 29, .fieldAddr 40 (.tmp 6) 1, 0, "l11_batch.go:107", #[⟨9, .guard⟩], some (9, false)⟩ ?_
          try simp only [pm, s0, sS]
          refine tkN 11 ⟨some 30, .load 38 (.tmp 29), 38, "l11_batch.go:107", #[⟨10, .data⟩, ⟨9, .guard⟩], some (9, false)⟩ ?_
          try simp only [pm, s0, sS]
          refine tkN 12 ⟨some 31, .move (.tmp 1), 25, "l11_batch.go:107", #[⟨9, .guard⟩], some (9, false)⟩ ?_
          try simp only [pm, s0, sS]
          refine tkN 13 ⟨some 32, .move (.tmp 5), 3, "l11_batch.go:107", #[⟨9, .guard⟩], some (9, false)⟩ ?_
          try simp only [pm, s0, sS]
          refine tkN 14 ⟨some 33, .indexAddr 25 (.tmp 31) (.tmp 32), 0, "l11_batch.go:107", #[⟨12, .data⟩, ⟨13, .data⟩, ⟨9, .guard⟩], some (9, false)⟩ ?_
          try simp only [pm, s0, sS]
          refine tkN 15 ⟨some 34, .fieldAddr 40 (.tmp 33) 1, 0, "l11_batch.go:107", #[⟨14, .data⟩, ⟨9, .guard⟩], some (9, false)⟩ ?_
          try simp only [pm, s0, sS]
          refine tkN 16 ⟨some 35, .load 38 (.tmp 34), 38, "l11_batch.go:107", #[⟨15, .data⟩, ⟨9, .guard⟩], some (9, false)⟩ ?_
          try simp only [pm, s0, sS]
          refine wpAnyH_ready (rs := [17]) (by kernel_rfl) (by simp) ?_
          refine AllReadyH.cons (o := ⟨some 36, .call { callee := .value (.func 10), args := #[.tmp 30, .tmp 35], argTypes := #[38, 38] }, 4, "l11_batch.go:107", #[⟨11, .data⟩, ⟨16, .data⟩, ⟨9, .chain⟩, ⟨9, .guard⟩], some (9, false)⟩) rfl (fun K hK => ?_) AllReadyH.nil
          go_simp
          refine hK.out _ _ (mkS_4 _ _ S_4.out) (fun hHeld17 => ?_)
          clear hK K
          try simp only [pm, s0, sS]
          refine tkN 18 ⟨some 37, .unOp .not 4 (.tmp 36), 4, "l11_batch.go:107", #[⟨17, .data⟩, ⟨9, .guard⟩], some (9, false)⟩ ?_
          try simp only [pm, s0, sS]
          refine tkH 19 ?_ ⟨some 38, .pick (.tmp 28) (.const (Value.bool true)) (.tmp 37), 4, "l11_batch.go:107", #[⟨9, .data⟩, ⟨18, .data⟩], none⟩ ?_ ?_
          rotate_left
          · intro w9 hSw; (try dsimp only at hSw); go_simp; try with_reducible rfl
          try simp only [pm, s0, sS]
          refine wpAnyH_done (by kernel_rfl) ?_ _
          refine NoPanic.normal ?_
          have HE2 := Lib.hid (show false = sameDps (dats ys) (dats zs) from (HBAD.out (by rw [← HR.out]; unfold samePo; rw [HQ0.out]; rfl)).symm)
          have HW3 := Lib.hid (HW.out.trans (S_4.out.below.mono HW.out.size))
          go_wp2
          go_ret
          exact ⟨ret_bool HE2.out, HW3.out⟩
      · obtain rfl : k = n := by omega
        have HE := Lib.hid (show true = sameDps (dats ys) (dats zs) from (sameDps_all (HLA.out.trans HLB.out.symm) (fun j x y hx hy => HT.out j x y (by have := (List.getElem?_eq_some_iff.mp hx).1; have := HLA.out; omega) hx hy)).symm)
        go_wp2
        go_ret
        exact ⟨ret_bool HE.out, HW.out⟩
  · have HE := Lib.hid (show false = sameDps (dats ys) (dats zs) from (sameDps_len (by rw [HLA.out, HLB.out]; exact hnm)).symm)
    have hne : ((n : Int) != (m : Int)) = true := by simp; omega
    have hne2 : ¬ (n : Int) = (m : Int) := by omega
    go_enter Try.func5, Try.ntmps5
    go_wp2
    go_ret
    exact ⟨ret_bool HE.out, Below.refl _ _⟩
end Go.Proofs.Ytodoiekbjjiocaa
