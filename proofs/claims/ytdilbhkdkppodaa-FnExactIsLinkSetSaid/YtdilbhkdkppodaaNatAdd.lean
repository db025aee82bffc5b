/- Contracts of NatAdd, of the model (with l02Add, l02Cap) and of the program. Conditions: none. -/
import Derived.Test.YtdilbhkdkppodaaProg
import Derived.Test.YtdilbhkdkppodaaNatOk
import Derived.Test.YtdilbhkdkppodaaNatOf
import Derived.Test.YtdilbhkdkppodaaRow
namespace Go.Proofs.Ytdilbhkdkppodaa
open Go.RowKit Nt
set_option linter.unusedVariables false

theorem car_one (y b : List Nat) (k : Nat) (hy : Digs y) (hb : Digs b) : car y b 1 k ≤ 1 := by
  induction k with
  | zero => simp [car]
  | succ k ih =>
    have h1 := hy.getD k
    have h2 := hb.getD k
    simp only [car]
    omega
/-- The sum that a loop of addTimes leaves, where nothing is carried out. -/
theorem add_val (Y bs : List Nat) (f n : Nat) (hn : Y.length = n) (hb : bs.length ≤ n) (hlt : val Y + f * val bs < 1000000000 ^ n) : val ((List.range n).map (sumAt Y bs f)) = val Y + f * val bs ∧ car Y bs f n = 0 := by
  have h := car_sum Y bs f n
  rw [List.take_of_length_le (by omega), List.take_of_length_le hb] at h
  have h0 : car Y bs f n = 0 := by
    rcases Nat.eq_zero_or_pos (car Y bs f n) with h0 | h0
    · exact h0
    · have := Nat.le_mul_of_pos_right (1000000000 ^ n) h0
      omega
  rw [vs_range]
  rw [h0] at h
  exact ⟨by omega, h0⟩
theorem upd_all (Y : List Nat) (n : Nat) (F : Nat → Nat) (hn : Y.length = n) : upd Y 0 n F = (List.range n).map F := by
  simp [upd, List.drop_of_length_le (show Y.length ≤ n by omega)]
theorem val_pad (ds : List Nat) (k : Nat) : val (ds ++ List.replicate k 0) = val ds := by rw [val_append, val_zeros]; simp
theorem digs_pad {ds : List Nat} (h : Digs ds) (k : Nat) : Digs (ds ++ List.replicate k 0) := h.app (digs_replicate k)
/-- What NatAdd answers. -/
def addN (xs ys : List Int) : List Nat := if okI xs = true ∧ okI ys = true then capd (val (toN xs) + val (toN ys)) else []
theorem addN_len (xs ys : List Int) : (addN xs ys).length ≤ 60 := by unfold addN; split; exact capd_len _; simp
theorem addN_yes {xs ys : List Int} (h1 : okI xs = true) (h2 : okI ys = true) : addN xs ys = capd (val (toN xs) + val (toN ys)) := by rw [addN, if_pos ⟨h1, h2⟩]
theorem addN_no {xs ys : List Int} (h : okI xs = false ∨ okI ys = false) : addN xs ys = [] := by rw [addN, if_neg (by rintro ⟨h1, h2⟩; rcases h with h | h <;> simp_all)]

theorem OwnV.nil_cap {w : World} {base : Nat} {e : TypeId} {A : Option Addr} {n c : Nat} {xs : List Value} (h : OwnV w base e (.slice A n c) xs) : A = none → c = 0 := by
  rintro rfl
  rcases h with ⟨hv, _⟩ | ⟨g, c', ys, hv, _⟩
  · simp at hv; exact hv.2
  · simp at hv
/-- l02Trim at a row of one's own. -/
theorem l02Trim_own (base : Nat) (A : Option Addr) (n c : Nat) (ds : List Nat) (w : World) (h : OwnV w base 3 (.slice A n c) (nats ds)) (hd : Digs ds) :
    Calls Try.prog 81 #[.slice A n c] w fun e w' => e = .returned (.slice A (dig (val ds)).length c) ∧ OwnV w base 3 (.slice A (dig (val ds)).length c) (nats (dig (val ds))) ∧ w' = w := by
  have hl := h.len
  rw [nats_len] at hl
  have hk := dig_le_len hd
  have hc := h.cut (m := (dig (val ds)).length) (c2 := c) (by omega) (by have := h.cap.1; omega) (Nat.le_refl _)
  rw [nats_take, take_dig hd] at hc
  exact (l02Trim_any A n c ds w h.row hd h.cap.1 h.cap.2 h.nil_cap).mono fun e w' ⟨h1, h2⟩ => ⟨h1, hc, h2⟩
set_option maxRecDepth 100000 in
set_option maxHeartbeats 1000000 in
theorem l02Cap_own (base : Nat) (A : Option Addr) (n c : Nat) (ds : List Nat) (w : World) (h : OwnV w base 3 (.slice A n c) (nats ds)) (hd : Digs ds) :
    Calls Try.prog 90 #[.slice A n c] w fun e w' => (∃ v, e = .returned v ∧ OwnV w base 3 v (nats (capd (val ds)))) ∧ w' = w := by
  have hlen : (dig (val ds)).length ≤ 9223372036854775807 := by
    have h1 := h.len
    have h2 := h.cap
    have h3 := dig_le_len hd
    rw [nats_len] at h1
    unfold maxLen at h2
    omega
  have HH := Lib.hid h
  have HD := Lib.hid hd
  clear h hd
  go_enter Try.func90, Try.ntmps90
  go_wp2_with fail
  refine (l02Trim_own base A n c ds w HH.out HD.out).mono ?_
  rintro e w1 ⟨rfl, hc, rfl⟩
  have HC := Lib.hid hc
  have HK := Lib.hid (show capd (val ds) = if (dig (val ds)).length ≤ 60 then dig (val ds) else [] from rfl)
  clear hc
  by_cases h60 : (dig (val ds)).length ≤ 60
  · have e : capd (val ds) = dig (val ds) := by rw [HK.out, if_pos h60]
    have HE := Lib.hid e
    clear e
    generalize hm : (dig (val ds)).length = m at *
    have HM := Lib.hid hm
    clear hm
    go_wp2
    go_ret
    refine ⟨⟨_, rfl, ?_⟩, rfl⟩
    rw [HE.out]
    exact HC.out
  · have e : capd (val ds) = [] := by rw [HK.out, if_neg h60]
    have HE := Lib.hid e
    clear e
    generalize hm : (dig (val ds)).length = m at *
    have HM := Lib.hid hm
    clear hm
    go_wp2
    go_ret
    refine ⟨⟨_, rfl, ?_⟩, rfl⟩
    rw [HE.out]
    exact OwnV.nil _ _ _
set_option maxRecDepth 100000 in
set_option maxHeartbeats 2000000 in
theorem natAdd_impl (A B : Option Addr) (n c m d : Nat) (xs ys : List Int) (w : World) (hA : VRow w A n (ints xs)) (hB : VRow w B m (ints ys)) (hn : n ≤ maxLen) (hm : m ≤ maxLen) :
    Calls Try.prog 94 #[.slice A n c, .slice B m d] w (OwnR 3 (nats (addN xs ys)) w) := by
  have HA := Lib.hid hA
  have HB := Lib.hid hB
  clear hA hB
  cases hx : okI xs with
  | false =>
    have HEQ := Lib.hid (addN_no (xs := xs) (ys := ys) (.inl hx))
    go_enter Try.func94, Try.ntmps94
    go_wp2_with fail
    refine (natOk_impl _ _ _ xs _ HA.out hn).mono ?_
    rintro e w1 ⟨rfl, hb⟩
    rw [hx]
    have HB1 := Lib.hid hb
    clear hb
    go_wp2
    go_ret
    rw [HEQ.out]
    exact ⟨_, rfl, OwnV.nil _ _ _, HB1.out⟩
  | true =>
    obtain ⟨hxn, hxc, hxl⟩ := okI_nats hx
    go_enter Try.func94, Try.ntmps94
    go_wp2_with fail
    refine (natOk_impl _ _ _ xs _ HA.out hn).mono ?_
    rintro e w1 ⟨rfl, hb⟩
    rw [hx]
    have HB1 := Lib.hid hb
    clear hb
    go_wp2_with fail
    refine (natOk_impl _ _ _ ys _ (HB.out.below HB1.out (Nat.le_refl _)) hm).mono ?_
    rintro e w2 ⟨rfl, hb⟩
    have HB2 := Lib.hid (HB1.out.trans (hb.mono HB1.out.size))
    clear hb
    cases hy : okI ys with
    | false =>
      have HEQ := Lib.hid (addN_no (xs := xs) (ys := ys) (.inr hy))
      go_wp2
      go_ret
      rw [HEQ.out]
      exact ⟨_, rfl, OwnV.nil _ _ _, HB2.out⟩
    | true =>
      obtain ⟨hyn, hyc, hyl⟩ := okI_nats hy
      have hA2 := HA.out.below HB2.out (Nat.le_refl _)
      have hBB2 := HB.out.below HB2.out (Nat.le_refl _)
      rw [hxn] at hA2
      rw [hyn] at hBB2
      have HEQ := Lib.hid (addN_yes hx hy)
      clear hxn hyn hx hy HA HB HB1
      generalize toN xs = ds at *
      generalize toN ys = es at *
      have HL := Lib.hid (show ds.length = n by simpa [nats_len] using hA2.1)
      have HM := Lib.hid (show es.length = m by simpa [nats_len] using hBB2.1)
      have hn60 : n ≤ 60 := by have := HL.out; omega
      have hm60 : m ≤ 60 := by have := HM.out; omega
      have HX := Lib.hid hxc
      have HY := Lib.hid hyc
      have HA2 := Lib.hid hA2
      have HBB2 := Lib.hid hBB2
      clear hxc hyc hA2 hBB2 hn hm hxl hyl
      by_cases hnm : n < m
      · go_wp2_with fail
        refine (rowOf_any _ n c (m + 1) _ (by first | rfl | omega) ds _ HA2.out (by omega) (by omega)).mono ?_
        rintro e w3 ⟨rfl, hw3, hb3⟩
        obtain ⟨Y, hY⟩ : ∃ Y, Y = ds ++ List.replicate (m + 1 - n) 0 := ⟨_, rfl⟩
        rw [← hY] at hw3
        have hYl : Y.length = m + 1 := by rw [hY, List.length_append, List.length_replicate, HL.out]; omega
        have hYv : val Y = val ds := by rw [hY, val_pad]
        have hYd : Digs Y := by rw [hY]; exact digs_pad HX.out.1 _
        obtain ⟨r, hr⟩ : ∃ r, m + 1 = r := ⟨_, rfl⟩
        have hrn : n < r ∧ m < r ∧ r ≤ 61 := by omega
        rw [hr] at hYl ⊢
        have HYL := Lib.hid hYl
        have HYV := Lib.hid hYv
        have HYD := Lib.hid hYd
        have HW3 := Lib.hid hw3
        have HB3 := Lib.hid (HB2.out.trans (hb3.mono HB2.out.size))
        have HBB3 := Lib.hid (HBB2.out.below hb3 (Nat.le_refl _))
        have HOFF := Lib.hid (HBB2.out.off (Nat.le_refl _))
        have HSZ := Lib.hid hb3.size
        clear hw3 hb3 hY hYl hYv hYd hr
        go_wp2_with fail
        refine (addTimes_any _ _ r r _ Y _ m d es 1 _ (by first | rfl | omega) _ HW3.out (by rw [HYL.out]; omega) HYD.out HBB3.out HOFF.out HY.out.1 (by omega) (by omega) (by omega)).mono ?_
        rintro e w4 ⟨rfl, hw4, hg4⟩
        rw [List.drop_zero, List.take_of_length_le (by rw [HYL.out]; exact Nat.le_refl _), upd_all _ _ _ HYL.out] at hw4
        have HW4 := Lib.hid hw4
        have HB4 := Lib.hid (HB3.out.grown hg4 HB3.out.size (fun k hk => by have := HW3.out.lt.1; have := HB2.out.size; simp at hk; omega))
        clear hw4 hg4
        go_wp2_with fail
        refine (natOrNil_any _ r _ _ (by simp) _ HW4.out (sumAt_digs _ _ _ _) (by omega)).mono ?_
        rintro e w5 ⟨⟨v, rfl, ho, _⟩, rfl⟩
        have HO := Lib.hid ho
        clear ho
        go_wp2
        go_ret
        refine ⟨_, rfl, ?_, HB4.out⟩
        have h1 : val ds < 1000000000 ^ (r - 1) := Nat.lt_of_lt_of_le (val_lt HX.out.1) (Nat.pow_le_pow_right (by decide) (by have := HL.out; omega))
        have h2 : val es < 1000000000 ^ (r - 1) := Nat.lt_of_lt_of_le (val_lt HY.out.1) (Nat.pow_le_pow_right (by decide) (by have := HM.out; omega))
        have h3 : 1000000000 ^ r = 1000000000 ^ (r - 1) * 1000000000 := by rw [← Nat.pow_succ]; congr 1; omega
        have hv := (add_val Y es 1 r HYL.out (by have := HM.out; omega) (by rw [HYV.out, h3]; omega)).1
        rw [HYV.out, Nat.one_mul] at hv
        rw [HEQ.out, ← hv]
        exact HO.out.based HB2.out.size
      · go_wp2_with fail
        refine (rowOf_any _ n c (n + 1) _ (by first | rfl | omega) ds _ HA2.out (by omega) (by omega)).mono ?_
        rintro e w3 ⟨rfl, hw3, hb3⟩
        obtain ⟨Y, hY⟩ : ∃ Y, Y = ds ++ List.replicate (n + 1 - n) 0 := ⟨_, rfl⟩
        rw [← hY] at hw3
        have hYl : Y.length = n + 1 := by rw [hY, List.length_append, List.length_replicate, HL.out]; omega
        have hYv : val Y = val ds := by rw [hY, val_pad]
        have hYd : Digs Y := by rw [hY]; exact digs_pad HX.out.1 _
        obtain ⟨r, hr⟩ : ∃ r, n + 1 = r := ⟨_, rfl⟩
        have hrn : n < r ∧ m < r ∧ r ≤ 61 := by omega
        rw [hr] at hYl ⊢
        have HYL := Lib.hid hYl
        have HYV := Lib.hid hYv
        have HYD := Lib.hid hYd
        have HW3 := Lib.hid hw3
        have HB3 := Lib.hid (HB2.out.trans (hb3.mono HB2.out.size))
        have HBB3 := Lib.hid (HBB2.out.below hb3 (Nat.le_refl _))
        have HOFF := Lib.hid (HBB2.out.off (Nat.le_refl _))
        have HSZ := Lib.hid hb3.size
        clear hw3 hb3 hY hYl hYv hYd hr
        go_wp2_with fail
        refine (addTimes_any _ _ r r _ Y _ m d es 1 _ (by first | rfl | omega) _ HW3.out (by rw [HYL.out]; omega) HYD.out HBB3.out HOFF.out HY.out.1 (by omega) (by omega) (by omega)).mono ?_
        rintro e w4 ⟨rfl, hw4, hg4⟩
        rw [List.drop_zero, List.take_of_length_le (by rw [HYL.out]; exact Nat.le_refl _), upd_all _ _ _ HYL.out] at hw4
        have HW4 := Lib.hid hw4
        have HB4 := Lib.hid (HB3.out.grown hg4 HB3.out.size (fun k hk => by have := HW3.out.lt.1; have := HB2.out.size; simp at hk; omega))
        clear hw4 hg4
        go_wp2_with fail
        refine (natOrNil_any _ r _ _ (by simp) _ HW4.out (sumAt_digs _ _ _ _) (by omega)).mono ?_
        rintro e w5 ⟨⟨v, rfl, ho, _⟩, rfl⟩
        have HO := Lib.hid ho
        clear ho
        go_wp2
        go_ret
        refine ⟨_, rfl, ?_, HB4.out⟩
        have h1 : val ds < 1000000000 ^ (r - 1) := Nat.lt_of_lt_of_le (val_lt HX.out.1) (Nat.pow_le_pow_right (by decide) (by have := HL.out; omega))
        have h2 : val es < 1000000000 ^ (r - 1) := Nat.lt_of_lt_of_le (val_lt HY.out.1) (Nat.pow_le_pow_right (by decide) (by have := HM.out; omega))
        have h3 : 1000000000 ^ r = 1000000000 ^ (r - 1) * 1000000000 := by rw [← Nat.pow_succ]; congr 1; omega
        have hv := (add_val Y es 1 r HYL.out (by have := HM.out; omega) (by rw [HYV.out, h3]; omega)).1
        rw [HYV.out, Nat.one_mul] at hv
        rw [HEQ.out, ← hv]
        exact HO.out.based HB2.out.size
end Go.Proofs.Ytdilbhkdkppodaa
