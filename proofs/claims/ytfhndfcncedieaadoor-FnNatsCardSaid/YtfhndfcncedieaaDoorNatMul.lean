/- Contracts of NatMul, of the model (with l02Mul) and of the program. Conditions: none. -/
import Derived.Test.YtfhndfcncedieaaDoorProg
import Derived.Test.YtfhndfcncedieaaDoorNatAdd
namespace Go.Proofs.YtfhndfcncedieaaDoor
open Go.RowKit Nt
set_option linter.unusedVariables false

theorem made_whole {w : World} {base g N : Nat} (h : w.ownsRow base 3 1 (.slice (some ⟨g, 0, none⟩) N N) N (madeCells (Value.int .i64 0).cells (N * 1)).toList) : Whole w base g 3 (nats (List.replicate N 0)) := by
  have hz : (madeCells (Value.int .i64 0).cells (N * 1)).toList = nats (List.replicate N 0) := by
    rw [nats_replicate, Nat.mul_one]; exact toList_madeCells_one _ _
  rw [hz] at h
  unfold Whole
  rw [nats_len, List.length_replicate]
  exact h
theorem val_upd (Y : List Nat) (o r : Nat) (F : Nat → Nat) (h : o + r ≤ Y.length) : val (upd Y o r F) = val (Y.take o) + 1000000000 ^ o * (vs F r + 1000000000 ^ r * val (Y.drop (o + r))) := by
  unfold upd
  rw [val_append, val_append, vs_range, List.length_take, Nat.min_eq_left (by omega), List.length_map, List.length_range]
theorem val_win (Y : List Nat) (o r : Nat) (h : o + r ≤ Y.length) : val Y = val (Y.take o) + 1000000000 ^ o * (val ((Y.drop o).take r) + 1000000000 ^ r * val (Y.drop (o + r))) := by
  rw [val_take_drop Y o (by omega), val_take_drop (Y.drop o) r (by simp; omega), List.drop_drop]
theorem drop_upd (Y : List Nat) (o r : Nat) (F : Nat → Nat) (h : o + r ≤ Y.length) : (upd Y o r F).drop (o + r) = Y.drop (o + r) := by
  unfold upd
  rw [← List.append_assoc, List.drop_left' (by simp; omega)]
/-- One round of the multiplication: x times es is added at place k. -/
theorem mul_step (Y es : List Nat) (k m x : Nat) (hY : Digs Y) (hm : es.length = m) (hes : Digs es) (hx : x < 1000000000) (hl : k + m + 1 ≤ Y.length) (hz : val (Y.drop (k + m)) = 0) :
    Digs (upd Y k (m + 1) (sumAt ((Y.drop k).take (m + 1)) es x)) ∧ val (upd Y k (m + 1) (sumAt ((Y.drop k).take (m + 1)) es x)) = val Y + 1000000000 ^ k * (x * val es) ∧ val ((upd Y k (m + 1) (sumAt ((Y.drop k).take (m + 1)) es x)).drop (k + 1 + m)) = 0 ∧ sumAt ((Y.drop k).take (m + 1)) es x m = car ((Y.drop k).take (m + 1)) es x m := by
  have hd := val_drop_succ Y (k + m) (by omega)
  rw [hz] at hd
  have hz1 : val (Y.drop (k + m + 1)) = 0 := by omega
  have hY0 : Y[k + m] = 0 := by omega
  have hyd : Digs ((Y.drop k).take (m + 1)) := (hY.drop k).take _
  have hy0 : ((Y.drop k).take (m + 1)).getD m 0 = 0 := by rw [win_getD Y k (m + 1) m (by omega) (by omega)]; exact hY0
  have e1 := val_upd Y k (m + 1) (sumAt ((Y.drop k).take (m + 1)) es x) (by omega)
  have e2 := val_win Y k (m + 1) (by omega)
  have e3 := drop_upd Y k (m + 1) (sumAt ((Y.drop k).take (m + 1)) es x) (by omega)
  have hyl : ((Y.drop k).take (m + 1)).length ≤ m + 1 := by simp; omega
  have z0 : ∀ a b : Nat, a + b * 0 = a := by intro a b; rw [Nat.mul_zero]; rfl
  rw [← Nat.add_assoc k m 1, hz1, z0] at e1 e2
  generalize (Y.drop k).take (m + 1) = ys at *
  have hcl := car_lt ys es x m hyd hes hx
  have he0 : es.getD m 0 = 0 := by simp [List.getElem?_eq_none (show es.length ≤ m by omega)]
  have hF : sumAt ys es x m = car ys es x m := by
    simp only [sumAt]
    rw [hy0, he0, Nat.zero_mul]
    omega
  have hc : car ys es x (m + 1) = 0 := by
    simp only [car]
    rw [hy0, he0, Nat.zero_mul]
    omega
  have hs := car_sum ys es x (m + 1)
  rw [hc, Nat.mul_zero, Nat.add_zero, List.take_of_length_le (show es.length ≤ m + 1 by omega), List.take_of_length_le hyl] at hs
  refine ⟨digs_upd hY (sumAt_digs _ _ _ _), ?_, ?_, hF⟩
  · rw [e1, e2, hs, Nat.mul_add, Nat.add_assoc]
  · have e4 : k + 1 + m = k + (m + 1) := by omega
    rw [e4, e3]
    exact hz1
/-- What NatMul answers. -/
def mulN (xs ys : List Int) : List Nat := if okI xs = true ∧ okI ys = true then capd (val (toN xs) * val (toN ys)) else []
theorem mulN_len (xs ys : List Int) : (mulN xs ys).length ≤ 60 := by unfold mulN; split; exact capd_len _; simp
theorem mulN_yes {xs ys : List Int} (h1 : okI xs = true) (h2 : okI ys = true) : mulN xs ys = capd (val (toN xs) * val (toN ys)) := by rw [mulN, if_pos ⟨h1, h2⟩]
theorem mulN_no {xs ys : List Int} (h : okI xs = false ∨ okI ys = false) : mulN xs ys = [] := by rw [mulN, if_neg (by rintro ⟨h1, h2⟩; rcases h with h | h <;> simp_all)]

set_option maxRecDepth 100000 in
set_option maxHeartbeats 1000000 in
theorem natMul_impl (A B : Option Addr) (n c m d : Nat) (xs ys : List Int) (w : World) (hA : VRow w A n (ints xs)) (hB : VRow w B m (ints ys)) (hn : n ≤ maxLen) (hm : m ≤ maxLen) :
    Calls Tryd.prog 13 #[.slice A n c, .slice B m d] w (OwnR 3 (nats (mulN xs ys)) w) := by
  have HA := Lib.hid hA
  have HB := Lib.hid hB
  clear hA hB
  cases hx : okI xs with
  | false =>
    have HEQ := Lib.hid (mulN_no (xs := xs) (ys := ys) (.inl hx))
    go_enter Tryd.func13, Tryd.ntmps13
    go_wp2_with fail
    refine (natOk_impl _ _ _ xs _ HA.out hn).mono ?_
    rintro e w1 ⟨rfl, hb⟩
    rw [hx]
    have HB1 := Lib.hid hb
    clear hb
    go_wp2
    go_ret
    rw [HEQ.out]
    exact ⟨_, rfl, OwnV.nil _ _ _, HB1.out⟩
  | true =>
    obtain ⟨hxn, hxc, hxl⟩ := okI_nats hx
    go_enter Tryd.func13, Tryd.ntmps13
    go_wp2_with fail
    refine (natOk_impl _ _ _ xs _ HA.out hn).mono ?_
    rintro e w1 ⟨rfl, hb⟩
    rw [hx]
    have HB1 := Lib.hid hb
    clear hb
    go_wp2_with fail
    refine (natOk_impl _ _ _ ys _ (HB.out.below HB1.out (Nat.le_refl _)) hm).mono ?_
    rintro e w2 ⟨rfl, hb⟩
    have HB2 := Lib.hid (HB1.out.trans (hb.mono HB1.out.size))
    clear hb
    cases hy : okI ys with
    | false =>
      have HEQ := Lib.hid (mulN_no (xs := xs) (ys := ys) (.inr hy))
      go_wp2
      go_ret
      rw [HEQ.out]
      exact ⟨_, rfl, OwnV.nil _ _ _, HB2.out⟩
    | true =>
      obtain ⟨hyn, hyc, hyl⟩ := okI_nats hy
      have hA2 := HA.out.below HB2.out (Nat.le_refl _)
      have hBB2 := HB.out.below HB2.out (Nat.le_refl _)
      rw [hxn] at hA2
      rw [hyn] at hBB2
      have HEQ := Lib.hid (mulN_yes hx hy)
      clear hxn hyn hx hy HA HB HB1
      generalize toN xs = ds at *
      generalize toN ys = es at *
      have HL := Lib.hid (show ds.length = n by simpa [nats_len] using hA2.1)
      have HM := Lib.hid (show es.length = m by simpa [nats_len] using hBB2.1)
      have hn60 : n ≤ 60 := by have := HL.out; omega
      have hm60 : m ≤ 60 := by have := HM.out; omega
      have HX := Lib.hid hxc
      have HY := Lib.hid hyc
      have HA2 := Lib.hid hA2
      have HBB2 := Lib.hid hBB2
      clear hxc hyc hA2 hBB2 hn hm hxl hyl
      obtain ⟨i0, hi, hz0, hz1, hz2⟩ := info_parts info_int
      go_wp2_with (at_make; refine wpList_make_full _ rfl _ _ _ rfl w2.heap.size 3 i0 _ 1 Tryd.underlying23 hi hz0 hz1 .i64 .i64 _ _ (n + m) rfl rfl rfl rfl (by rw [hz2]; omega) (by unfold maxLen; omega) (Nat.le_refl _) ?_; intro w3 hown hgrow)
      have hb3 := (Below.refl w2.heap.size w2).grown hgrow (Nat.le_refl _) (by simp)
      have HB3 := Lib.hid hb3
      have HW3 := Lib.hid (made_whole hown)
      clear hown hgrow hb3
      go_wp2
      go_loopw [25] (fun i wr => ∃ (k : Nat) (Y : List Nat), k ≤ n ∧ i = .int .i64 k ∧ Y.length = n + m ∧ Digs Y ∧ val Y = val (ds.take k) * val es ∧ val (Y.drop (k + m)) = 0 ∧ Whole wr w2.heap.size w2.heap.size 3 (nats Y) ∧ Below w2.heap.size w2 wr) (fun i _ => n - (intOf i).toNat)
      case atStart => exact ⟨0, _, Nat.zero_le _, rfl, by simp, digs_replicate _, by rw [val_zeros]; simp [val], by rw [List.drop_replicate, val_zeros], HW3.out, HB3.out⟩
      case round =>
        obtain ⟨k, Y, hk, rfl, hYl, hYd, hYv, hYz, hw, hb⟩ := hrel
        have HYL := Lib.hid hYl
        have HYD := Lib.hid hYd
        have HYV := Lib.hid hYv
        have HYZ := Lib.hid hYz
        have HW := Lib.hid hw
        have HBr := Lib.hid hb
        clear hYl hYd hYv hYz hw hb
        by_cases hlt : k < n
        · obtain ⟨ga, oa, rfl, hga, hca⟩ := (HA2.out.below HBr.out (Nat.le_refl _)).at_ hlt
          rw [nats_get] at hca
          have hxl : k < ds.length := by have := HL.out; omega
          obtain ⟨x, hx⟩ : ∃ x, ds[k] = x := ⟨_, rfl⟩
          have hxb : x < 1000000000 := hx ▸ HX.out.1.get hxl
          have HVT := Lib.hid (show val (ds.take (k + 1)) = val (ds.take k) + 1000000000 ^ k * x by rw [val_take_succ ds k hxl, hx])
          rw [hx] at hca
          clear hx
          have HST := Lib.hid (mul_step Y es k m x HYD.out HM.out HY.out.1 hxb (by rw [HYL.out]; omega) HYZ.out)
          have hltz : (k : Int) < (n : Int) := by omega
          have hend : ((k + m + 1 : Nat) : Int) = (k : Int) + m + 1 := by omega
          have hendc : k + m + 1 ≤ n + m := by omega
          go_wp2_with fail
          rw [show k + m + 1 - k = m + 1 by omega]
          refine (addTimes_any _ k (m + 1) (m + 1) _ Y _ m d es x _ (by first | rfl | omega) _ HW.out (by rw [HYL.out]; omega) HYD.out (HBB2.out.below HBr.out (Nat.le_refl _)) (HBB2.out.off (Nat.le_refl _)) HY.out.1 hxb (by omega) (by omega)).mono ?_
          rintro e w4 ⟨rfl, hw4, hg4⟩
          have HW4 := Lib.hid hw4
          have HB4 := Lib.hid (HBr.out.grown hg4 HBr.out.size (fun j hj => by simp at hj; omega))
          clear hw4 hg4
          go_wp2
          refine ⟨⟨k + 1, _, by omega, by go_num, ?_, HST.out.1, ?_, HST.out.2.2.1, HW4.out, HB4.out⟩, by simp [intOf]; omega⟩
          · rw [upd_len _ _ _ _ (by rw [HYL.out]; omega), HYL.out]
          · rw [HST.out.2.1, HYV.out, HVT.out, Nat.add_mul, Nat.mul_assoc]
        · obtain rfl : k = n := by omega
          go_wp2_with fail
          refine (natOrNil_any _ (k + m) _ Y HYL.out _ HW.out HYD.out (by omega)).mono ?_
          rintro e w5 ⟨⟨v, rfl, ho, _⟩, rfl⟩
          have HO := Lib.hid ho
          clear ho
          go_wp2
          go_ret
          refine ⟨_, rfl, ?_, HB2.out.trans (HBr.out.mono HB2.out.size)⟩
          have hv := HYV.out
          rw [List.take_of_length_le (by rw [HL.out]; exact Nat.le_refl _)] at hv
          rw [HEQ.out, ← hv]
          exact HO.out.based HB2.out.size
end Go.Proofs.YtfhndfcncedieaaDoor
