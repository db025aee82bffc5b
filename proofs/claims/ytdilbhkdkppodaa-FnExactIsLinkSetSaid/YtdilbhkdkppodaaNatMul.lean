/- Contracts of NatMul, of the model (with l02Mul) and of the program. Conditions: none. -/
import Derived.Test.YtdilbhkdkppodaaProg
import Derived.Test.YtdilbhkdkppodaaNatAdd
namespace Go.Proofs.Ytdilbhkdkppodaa
open Go.RowKit Nt
set_option linter.unusedVariables false

theorem made_whole {w : World} {base g N : Nat} (h : w.ownsRow base 3 1 (.slice (some ⟨g, 0, none⟩) N N) N (madeCells (Value.int .i64 0).cells (N * 1)).toList) : Whole w base g 3 (nats (List.replicate N 0)) := by
  have hz : (madeCells (Value.int .i64 0).cells (N * 1)).toList = nats (List.replicate N 0) := by
    rw [nats_replicate, Nat.mul_one]; exact toList_madeCells_one _ _
  rw [hz] at h
  unfold Whole
  rw [nats_len, List.length_replicate]
  exact h
theorem val_upd (Y : List Nat) (o r : Nat) (F : Nat → Nat) (h : o + r ≤ Y.length) : val (upd Y o r F) = val (Y.take o) + 1000000000 ^ o * (vs F r + 1000000000 ^ r * val (Y.drop (o + r))) := by
  unfold upd
  rw [val_append, val_append, vs_range, List.length_take, Nat.min_eq_left (by omega), List.length_map, List.length_range]
theorem val_win (Y : List Nat) (o r : Nat) (h : o + r ≤ Y.length) : val Y = val (Y.take o) + 1000000000 ^ o * (val ((Y.drop o).take r) + 1000000000 ^ r * val (Y.drop (o + r))) := by
  rw [val_take_drop Y o (by omega), val_take_drop (Y.drop o) r (by simp; omega), List.drop_drop]
theorem drop_upd (Y : List Nat) (o r : Nat) (F : Nat → Nat) (h : o + r ≤ Y.length) : (upd Y o r F).drop (o + r) = Y.drop (o + r) := by
  unfold upd
  rw [← List.append_assoc, List.drop_left' (by simp; omega)]
/-- One round of the multiplication: x times es is added at place k. -/
theorem mul_step (Y es : List Nat) (k m x : Nat) (hY : Digs Y) (hm : es.length = m) (hes : Digs es) (hx : x < 1000000000) (hl : k + m + 1 ≤ Y.length) (hz : val (Y.drop (k + m)) = 0) :
    Digs (upd Y k (m + 1) (sumAt ((Y.drop k).take (m + 1)) es x)) ∧ val (upd Y k (m + 1) (sumAt ((Y.drop k).take (m + 1)) es x)) = val Y + 1000000000 ^ k * (x * val es) ∧ val ((upd Y k (m + 1) (sumAt ((Y.drop k).take (m + 1)) es x)).drop (k + 1 + m)) = 0 ∧ sumAt ((Y.drop k).take (m + 1)) es x m = car ((Y.drop k).take (m + 1)) es x m := by
  have hd := val_drop_succ Y (k + m) (by omega)
  rw [hz] at hd
  have hz1 : val (Y.drop (k + m + 1)) = 0 := by omega
  have hY0 : Y[k + m] = 0 := by omega
  have hyd : Digs ((Y.drop k).take (m + 1)) := (hY.drop k).take _
  have hy0 : ((Y.drop k).take (m + 1)).getD m 0 = 0 := by rw [win_getD Y k (m + 1) m (by omega) (by omega)]; exact hY0
  have e1 := val_upd Y k (m + 1) (sumAt ((Y.drop k).take (m + 1)) es x) (by omega)
  have e2 := val_win Y k (m + 1) (by omega)
  have e3 := drop_upd Y k (m + 1) (sumAt ((Y.drop k).take (m + 1)) es x) (by omega)
  have hyl : ((Y.drop k).take (m + 1)).length ≤ m + 1 := by simp; omega
  have z0 : ∀ a b : Nat, a + b * 0 = a := by intro a b; rw [Nat.mul_zero]; rfl
  rw [← Nat.add_assoc k m 1, hz1, z0] at e1 e2
  generalize (Y.drop k).take (m + 1) = ys at *
  have hcl := car_lt ys es x m hyd hes hx
  have he0 : es.getD m 0 = 0 := by simp [List.getElem?_eq_none (show es.length ≤ m by omega)]
  have hF : sumAt ys es x m = car ys es x m := by
    simp only [sumAt]
    rw [hy0, he0, Nat.zero_mul]
    omega
  have hc : car ys es x (m + 1) = 0 := by
    simp only [car]
    rw [hy0, he0, Nat.zero_mul]
    omega
  have hs := car_sum ys es x (m + 1)
  rw [hc, Nat.mul_zero, Nat.add_zero, List.take_of_length_le (show es.length ≤ m + 1 by omega), List.take_of_length_le hyl] at hs
  refine ⟨digs_upd hY (sumAt_digs _ _ _ _), ?_, ?_, hF⟩
  · rw [e1, e2, hs, Nat.mul_add, Nat.add_assoc]
  · have e4 : k + 1 + m = k + (m + 1) := by omega
    rw [e4, e3]
    exact hz1
/-- What NatMul answers. -/
def mulN (xs ys : List Int) : List Nat := if okI xs = true ∧ okI ys = true then capd (val (toN xs) * val (toN ys)) else []
theorem mulN_len (xs ys : List Int) : (mulN xs ys).length ≤ 60 := by unfold mulN; split; exact capd_len _; simp
theorem mulN_yes {xs ys : List Int} (h1 : okI xs = true) (h2 : okI ys = true) : mulN xs ys = capd (val (toN xs) * val (toN ys)) := by rw [mulN, if_pos ⟨h1, h2⟩]
theorem mulN_no {xs ys : List Int} (h : okI xs = false ∨ okI ys = false) : mulN xs ys = [] := by rw [mulN, if_neg (by rintro ⟨h1, h2⟩; rcases h with h | h <;> simp_all)]

set_option maxRecDepth 100000 in
set_option maxHeartbeats 1000000 in
theorem l02Mul_any (A B : Option Addr) (n c m d : Nat) (ds es : List Nat) (w : World) (hA : VRow w A n (nats ds)) (hB : VRow w B m (nats es)) (hds : Digs ds) (hes : Digs es) (hnm : n + m ≤ 1048576) :
    Calls Try.prog 84 #[.slice A n c, .slice B m d] w (OwnR 3 (nats (dig (val ds * val es))) w) := by
  obtain ⟨i0, hi, hz0, hz1, hz2⟩ := info_parts info_int
  have HL := Lib.hid (show ds.length = n by simpa [nats_len] using hA.1)
  have HM := Lib.hid (show es.length = m by simpa [nats_len] using hB.1)
  by_cases h0 : n = 0
  · have HQ := Lib.hid (show dig (val ds * val es) = [] by rw [List.eq_nil_of_length_eq_zero (HL.out.trans h0)]; simp [val, dig_zero])
    subst h0
    go_enter Try.func84, Try.ntmps84
    go_wp2
    go_ret
    rw [HQ.out]
    exact ⟨_, rfl, OwnV.nil _ _ _, Below.refl _ _⟩
  by_cases h1 : m = 0
  · have HQ := Lib.hid (show dig (val ds * val es) = [] by rw [List.eq_nil_of_length_eq_zero (HM.out.trans h1)]; simp [val, dig_zero])
    subst h1
    go_enter Try.func84, Try.ntmps84
    go_wp2
    go_ret
    rw [HQ.out]
    exact ⟨_, rfl, OwnV.nil _ _ _, Below.refl _ _⟩
  have HA := Lib.hid hA
  have HBB := Lib.hid hB
  have HD := Lib.hid hds
  have HE := Lib.hid hes
  have h0b : ((n : Int) == 0) = false := by simp; omega
  have h1b : ((m : Int) == 0) = false := by simp; omega
  clear hA hB hds hes
  go_enter Try.func84, Try.ntmps84
  go_wp2_with (at_make; refine wpList_make_full _ rfl _ _ _ rfl w.heap.size 3 i0 _ 1 Try.underlying22 hi hz0 hz1 .i64 .i64 _ _ (n + m) rfl rfl rfl rfl (by rw [hz2]; omega) (by unfold maxLen; omega) (Nat.le_refl _) ?_; intro w1 hown hgrow)
  have HB1 := Lib.hid ((Below.refl w.heap.size w).grown hgrow (Nat.le_refl _) (by simp))
  have HW1 := Lib.hid (made_whole hown)
  clear hown hgrow
  go_wp2
  go_loopw [28] (fun i wr => ∃ (k : Nat) (Y : List Nat), k ≤ n ∧ i = .int .i64 k ∧ Y.length = n + m ∧ Digs Y ∧ val Y = val (ds.take k) * val es ∧ val (Y.drop (k + m)) = 0 ∧ Whole wr w.heap.size w.heap.size 3 (nats Y) ∧ Below w.heap.size w wr) (fun i _ => n - (intOf i).toNat)
  case atStart => exact ⟨0, _, Nat.zero_le _, rfl, by simp, digs_replicate _, by rw [val_zeros]; simp [val], by rw [List.drop_replicate, val_zeros], HW1.out, HB1.out⟩
  case round =>
    obtain ⟨k, Y, hk, rfl, hYl, hYd, hYv, hYz, hw, hb⟩ := hrel
    have HYL := Lib.hid hYl
    have HYD := Lib.hid hYd
    have HYV := Lib.hid hYv
    have HYZ := Lib.hid hYz
    have HW := Lib.hid hw
    have HB := Lib.hid hb
    clear hYl hYd hYv hYz hw hb
    by_cases hlt : k < n
    · obtain ⟨ga, oa, rfl, hga, hca⟩ := (HA.out.below HB.out (Nat.le_refl _)).at_ hlt
      rw [nats_get] at hca
      have hxl : k < ds.length := by have := HL.out; omega
      obtain ⟨x, hx⟩ : ∃ x, ds[k] = x := ⟨_, rfl⟩
      have hxb : x < 1000000000 := hx ▸ HD.out.get hxl
      have HVT := Lib.hid (show val (ds.take (k + 1)) = val (ds.take k) + 1000000000 ^ k * x by rw [val_take_succ ds k hxl, hx])
      rw [hx] at hca
      clear hx
      have HST := Lib.hid (mul_step Y es k m x HYD.out HM.out HE.out hxb (by rw [HYL.out]; omega) HYZ.out)
      obtain ⟨ys, hys⟩ : ∃ ys, (Y.drop k).take (m + 1) = ys := ⟨_, rfl⟩
      have HYS := Lib.hid hys
      have HYSD := Lib.hid (show Digs ys from hys ▸ (HYD.out.drop k).take _)
      rw [hys] at HST
      clear hys
      go_wp2
      go_loopw [8, 35] (fun cr i wq => ∃ j : Nat, j ≤ m ∧ i = .int .i64 j ∧ cr = .int .i64 (car ys es x j : Nat) ∧ Whole wq w.heap.size w.heap.size 3 (nats (upd Y k j (sumAt ys es x))) ∧ Below w.heap.size w wq) (fun _ i _ => m - (intOf i).toNat)
      case atStart => exact ⟨0, Nat.zero_le _, rfl, rfl, by rw [upd_zero]; exact HW.out, HB.out⟩
      case round =>
        obtain ⟨j, hj, rfl, rfl, hw2, hb2⟩ := hrel
        have HW2 := Lib.hid hw2
        have HB2 := Lib.hid hb2
        clear hw2 hb2
        have hkj : k + j < Y.length := by rw [HYL.out]; omega
        have hul : (upd Y k j (sumAt ys es x)).length = Y.length := upd_len _ _ _ _ (by omega)
        have hfz := HW2.out.frozen (k + j)
        have hcb := car_lt ys es x j HYSD.out HE.out hxb
        have HSET := Lib.hid (fun u => HW2.out.set (k + j) u)
        have HUS := Lib.hid (upd_set Y k j (sumAt ys es x) hkj)
        have hcell : wr.cell? ⟨w.heap.size, k + j, none⟩ = some (.int .i64 ((Y[k + j]'hkj : Nat) : Int)) := by
          have h := HW2.out.cell (k + j) (by rw [nats_len]; omega)
          rw [h, nats_get]
          congr 3
          have := upd_get? Y k j (sumAt ys es x) hkj
          rw [List.getElem?_eq_getElem (by omega)] at this
          simpa using this
        by_cases hjm : j < m
        · have hyk : ys.getD j 0 = Y[k + j]'hkj := by have h := win_getD Y k (m + 1) j (by omega) (by rw [HYL.out]; omega); rw [HYS.out] at h; exact h
          obtain ⟨y, hy⟩ : ∃ y, Y[k + j]'hkj = y := ⟨_, rfl⟩
          rw [hy] at hcell hyk
          have hyb : y < 1000000000 := by rw [← hyk]; exact HYSD.out.getD j
          have hsum : sumAt ys es x j = (ys.getD j 0 + car ys es x j + es.getD j 0 * x) % 1000000000 := rfl
          have hcar : car ys es x (j + 1) = (ys.getD j 0 + car ys es x j + es.getD j 0 * x) / 1000000000 := rfl
          rw [hyk] at hsum hcar
          obtain ⟨cr, hcr⟩ : ∃ cr, car ys es x j = cr := ⟨_, rfl⟩
          rw [hcr] at hcb hsum hcar ⊢
          clear hul hy hyk hcr
          obtain ⟨gb, ob, rfl, hgb, hcb'⟩ := (HBB.out.below HB2.out (Nat.le_refl _)).at_ hjm
          rw [nats_get] at hcb'
          have hel : j < es.length := by have := HM.out; omega
          obtain ⟨z, hz⟩ : ∃ z, es[j] = z := ⟨_, rfl⟩
          have hzb : z < 1000000000 := hz ▸ HE.out.get hel
          have hgd : es.getD j 0 = z := by rw [← hz]; simp [hel]
          rw [hz] at hcb'
          rw [hgd] at hsum hcar
          obtain ⟨p, hp⟩ : ∃ p, z * x = p := ⟨_, rfl⟩
          have hpb : p ≤ 999999999 * 999999999 := by rw [← hp]; exact Nat.mul_le_mul (by omega) (by omega)
          rw [hp] at hsum hcar
          have hpz : (x : Int) * (z : Int) = (p : Int) := by rw [← hp, Int.mul_comm]; simp
          have HSUM := Lib.hid hsum
          have HCAR := Lib.hid hcar
          clear hsum hcar hz hp hgd
          have hjmz : (j : Int) < (m : Int) := by omega
          have hltz : (k : Int) < (n : Int) := by omega
          have hkjz : (k : Int) + j < (n : Int) + m := by omega
          have hkj2 : k + j < n + m := by omega
          clear hkj
          go_wp2
          have e1 : ((y : Int) + p + cr) % 1000000000 = ((sumAt ys es x j : Nat) : Int) := by rw [HSUM.out]; omega
          have e2 : ((y : Int) + p + cr) / 1000000000 = ((car ys es x (j + 1) : Nat) : Int) := by rw [HCAR.out]; omega
          refine ⟨⟨j + 1, by omega, by go_num, ?_, ?_, ?_⟩, by simp [intOf]; omega⟩
          · rw [← e2]
          · have h := HSET.out (.int .i64 ((sumAt ys es x j : Nat) : Int))
            rw [nats_set, HUS.out, ← e1] at h
            exact h
          · exact HB2.out.setCell (Nat.le_refl _) _
        · obtain rfl : j = m := by omega
          have hFm := HST.out.2.2.2
          obtain ⟨cr, hcr⟩ : ∃ cr, car ys es x j = cr := ⟨_, rfl⟩
          rw [hcr] at hcb hFm ⊢
          have HFM := Lib.hid hFm
          clear hul hcr hFm
          have hkjz : (k : Int) + j < (n : Int) + j := by omega
          have hkj2 : k + j < n + j := by omega
          go_wp2
          refine ⟨⟨k + 1, _, by omega, by go_num, ?_, HST.out.1, ?_, HST.out.2.2.1, ?_, HB2.out.setCell (Nat.le_refl _) _⟩, by simp [intOf]; omega⟩
          · rw [upd_len _ _ _ _ (by rw [HYL.out]; omega), HYL.out]
          · rw [HST.out.2.1, HYV.out, HVT.out, Nat.add_mul, Nat.mul_assoc]
          · have h := HSET.out (.int .i64 ((sumAt ys es x j : Nat) : Int))
            rw [nats_set, HUS.out, HFM.out] at h
            exact h
    · obtain rfl : k = n := by omega
      have hov := OwnV.of_whole HW.out
      rw [nats_len, HYL.out] at hov
      have HOV := Lib.hid hov
      clear hov
      go_wp2_with fail
      refine (l02Trim_own _ _ _ _ _ _ HOV.out HYD.out).mono ?_
      rintro e w2 ⟨rfl, hov, rfl⟩
      have hv := HYV.out
      rw [List.take_of_length_le (by rw [HL.out]; exact Nat.le_refl _)] at hv
      rw [hv] at hov ⊢
      have HOV2 := Lib.hid hov
      clear hov hv
      go_wp2
      go_ret
      exact ⟨_, rfl, HOV2.out, HB.out⟩
set_option maxRecDepth 100000 in
set_option maxHeartbeats 1000000 in
theorem natMul_impl (A B : Option Addr) (n c m d : Nat) (xs ys : List Int) (w : World) (hA : VRow w A n (ints xs)) (hB : VRow w B m (ints ys)) (hn : n ≤ maxLen) (hm : m ≤ maxLen) :
    Calls Try.prog 129 #[.slice A n c, .slice B m d] w (OwnR 3 (nats (mulN xs ys)) w) := by
  have HA := Lib.hid hA
  have HB := Lib.hid hB
  clear hA hB
  cases hx : okI xs with
  | false =>
    have HEQ := Lib.hid (mulN_no (xs := xs) (ys := ys) (.inl hx))
    go_enter Try.func129, Try.ntmps129
    go_wp2_with fail
    refine (natOk_impl _ _ _ xs _ HA.out hn).mono ?_
    rintro e w1 ⟨rfl, hb⟩
    rw [hx]
    have HB1 := Lib.hid hb
    clear hb
    go_wp2
    go_ret
    rw [HEQ.out]
    exact ⟨_, rfl, OwnV.nil _ _ _, HB1.out⟩
  | true =>
    obtain ⟨hxn, hxc, hxl⟩ := okI_nats hx
    go_enter Try.func129, Try.ntmps129
    go_wp2_with fail
    refine (natOk_impl _ _ _ xs _ HA.out hn).mono ?_
    rintro e w1 ⟨rfl, hb⟩
    rw [hx]
    have HB1 := Lib.hid hb
    clear hb
    go_wp2_with fail
    refine (natOk_impl _ _ _ ys _ (HB.out.below HB1.out (Nat.le_refl _)) hm).mono ?_
    rintro e w2 ⟨rfl, hb⟩
    have HB2 := Lib.hid (HB1.out.trans (hb.mono HB1.out.size))
    clear hb
    cases hy : okI ys with
    | false =>
      have HEQ := Lib.hid (mulN_no (xs := xs) (ys := ys) (.inr hy))
      go_wp2
      go_ret
      rw [HEQ.out]
      exact ⟨_, rfl, OwnV.nil _ _ _, HB2.out⟩
    | true =>
      obtain ⟨hyn, hyc, hyl⟩ := okI_nats hy
      have hA2 := HA.out.below HB2.out (Nat.le_refl _)
      have hBB2 := HB.out.below HB2.out (Nat.le_refl _)
      rw [hxn] at hA2
      rw [hyn] at hBB2
      have HEQ := Lib.hid (mulN_yes hx hy)
      clear hxn hyn hx hy HA HB HB1
      generalize toN xs = ds at *
      generalize toN ys = es at *
      have HL := Lib.hid (show ds.length = n by simpa [nats_len] using hA2.1)
      have HM := Lib.hid (show es.length = m by simpa [nats_len] using hBB2.1)
      have hn60 : n ≤ 60 := by have := HL.out; omega
      have hm60 : m ≤ 60 := by have := HM.out; omega
      have HX := Lib.hid hxc
      have HY := Lib.hid hyc
      have HA2 := Lib.hid hA2
      have HBB2 := Lib.hid hBB2
      clear hxc hyc hA2 hBB2 hn hm hxl hyl
      obtain ⟨i0, hi, hz0, hz1, hz2⟩ := info_parts info_int
      go_wp2_with (at_make; refine wpList_make_full _ rfl _ _ _ rfl w2.heap.size 3 i0 _ 1 Try.underlying22 hi hz0 hz1 .i64 .i64 _ _ (n + m) rfl rfl rfl rfl (by rw [hz2]; omega) (by unfold maxLen; omega) (Nat.le_refl _) ?_; intro w3 hown hgrow)
      have hb3 := (Below.refl w2.heap.size w2).grown hgrow (Nat.le_refl _) (by simp)
      have HB3 := Lib.hid hb3
      have HW3 := Lib.hid (made_whole hown)
      clear hown hgrow hb3
      go_wp2
      go_loopw [25] (fun i wr => ∃ (k : Nat) (Y : List Nat), k ≤ n ∧ i = .int .i64 k ∧ Y.length = n + m ∧ Digs Y ∧ val Y = val (ds.take k) * val es ∧ val (Y.drop (k + m)) = 0 ∧ Whole wr w2.heap.size w2.heap.size 3 (nats Y) ∧ Below w2.heap.size w2 wr) (fun i _ => n - (intOf i).toNat)
      case atStart => exact ⟨0, _, Nat.zero_le _, rfl, by simp, digs_replicate _, by rw [val_zeros]; simp [val], by rw [List.drop_replicate, val_zeros], HW3.out, HB3.out⟩
      case round =>
        obtain ⟨k, Y, hk, rfl, hYl, hYd, hYv, hYz, hw, hb⟩ := hrel
        have HYL := Lib.hid hYl
        have HYD := Lib.hid hYd
        have HYV := Lib.hid hYv
        have HYZ := Lib.hid hYz
        have HW := Lib.hid hw
        have HBr := Lib.hid hb
        clear hYl hYd hYv hYz hw hb
        by_cases hlt : k < n
        · obtain ⟨ga, oa, rfl, hga, hca⟩ := (HA2.out.below HBr.out (Nat.le_refl _)).at_ hlt
          rw [nats_get] at hca
          have hxl : k < ds.length := by have := HL.out; omega
          obtain ⟨x, hx⟩ : ∃ x, ds[k] = x := ⟨_, rfl⟩
          have hxb : x < 1000000000 := hx ▸ HX.out.1.get hxl
          have HVT := Lib.hid (show val (ds.take (k + 1)) = val (ds.take k) + 1000000000 ^ k * x by rw [val_take_succ ds k hxl, hx])
          rw [hx] at hca
          clear hx
          have HST := Lib.hid (mul_step Y es k m x HYD.out HM.out HY.out.1 hxb (by rw [HYL.out]; omega) HYZ.out)
          have hltz : (k : Int) < (n : Int) := by omega
          have hend : ((k + m + 1 : Nat) : Int) = (k : Int) + m + 1 := by omega
          have hendc : k + m + 1 ≤ n + m := by omega
          go_wp2_with fail
          rw [show k + m + 1 - k = m + 1 by omega]
          refine (addTimes_any _ k (m + 1) (m + 1) _ Y _ m d es x _ (by first | rfl | omega) _ HW.out (by rw [HYL.out]; omega) HYD.out (HBB2.out.below HBr.out (Nat.le_refl _)) (HBB2.out.off (Nat.le_refl _)) HY.out.1 hxb (by omega) (by omega)).mono ?_
          rintro e w4 ⟨rfl, hw4, hg4⟩
          have HW4 := Lib.hid hw4
          have HB4 := Lib.hid (HBr.out.grown hg4 HBr.out.size (fun j hj => by simp at hj; omega))
          clear hw4 hg4
          go_wp2
          refine ⟨⟨k + 1, _, by omega, by go_num, ?_, HST.out.1, ?_, HST.out.2.2.1, HW4.out, HB4.out⟩, by simp [intOf]; omega⟩
          · rw [upd_len _ _ _ _ (by rw [HYL.out]; omega), HYL.out]
          · rw [HST.out.2.1, HYV.out, HVT.out, Nat.add_mul, Nat.mul_assoc]
        · obtain rfl : k = n := by omega
          go_wp2_with fail
          refine (natOrNil_any _ (k + m) _ Y HYL.out _ HW.out HYD.out (by omega)).mono ?_
          rintro e w5 ⟨⟨v, rfl, ho, _⟩, rfl⟩
          have HO := Lib.hid ho
          clear ho
          go_wp2
          go_ret
          refine ⟨_, rfl, ?_, HB2.out.trans (HBr.out.mono HB2.out.size)⟩
          have hv := HYV.out
          rw [List.take_of_length_le (by rw [HL.out]; exact Nat.le_refl _)] at hv
          rw [HEQ.out, ← hv]
          exact HO.out.based HB2.out.size
end Go.Proofs.Ytdilbhkdkppodaa
