/- Poses: RotateXY, composition, Inverse and Between of the model. Conditions: none. -/
import Derived.Test.YtdilgjakodimbaaDoorPose5
import Derived.Deep.DeepCutAuto
namespace Go.Proofs.YtdilgjakodimbaaDoor
open Go.RowKit Po
set_option linter.unusedVariables false

set_option maxRecDepth 100000 in
set_option maxHeartbeats 4000000 in
theorem rotateXY_spec (x y t : Int) (w : World) :
    Calls Tryd.prog 24 #[.int .i64 x, .int .i64 y, .int .i64 t] w fun e w' => e = .returned (.tuple #[.int .i64 (qX t x y), .int .i64 (qY t x y)]) ∧ Below w.heap.size w w' := by
  obtain ⟨vx, hvx⟩ : ∃ z, qX t x y = z := ⟨_, rfl⟩
  rw [hvx]
  obtain ⟨vy, hvy⟩ : ∃ z, qY t x y = z := ⟨_, rfl⟩
  rw [hvy]
  have HB_0 := Lib.hid (Below.refl w.heap.size w)
  go_enter Tryd.func24, Tryd.ntmps24
  go_wp2_with fail
  refine (validP_spec t x y _).mono ?_
  rintro e w1 ⟨rfl, hb⟩
  have HB_1 := Lib.hid (HB_0.out.trans (hb.mono HB_0.out.size))
  clear hb
  by_cases hp : ok t x y = true
  · rw [hp]
    obtain ⟨⟨ht0, ht1⟩, hx, hy⟩ := ok_iff.mp hp
    obtain ⟨e1, e2⟩ := q_yes hp
    rcases four ht0 ht1 with rfl | rfl | rfl | rfl
    · obtain rfl : x = vx := e1.symm.trans hvx
      obtain rfl : y = vy := e2.symm.trans hvy
      clear e1 e2 hvx hvy hp ht0 ht1
      go_wp2
      refine wp_loop_rounds 5 ?_
      rw [rounds_succ]
      go_wp2
      go_ret2
      exact ⟨rfl, HB_1.out⟩
    · obtain rfl : -y = vx := e1.symm.trans hvx
      obtain rfl : x = vy := e2.symm.trans hvy
      clear e1 e2 hvx hvy hp ht0 ht1
      go_wp2
      refine wp_loop_rounds 5 ?_
      rw [rounds_succ]
      go_wp2
      rw [rounds_succ]
      go_wp2
      go_ret2
      exact ⟨rfl, HB_1.out⟩
    · obtain rfl : -x = vx := e1.symm.trans hvx
      obtain rfl : -y = vy := e2.symm.trans hvy
      clear e1 e2 hvx hvy hp ht0 ht1
      go_wp2
      refine wp_loop_rounds 5 ?_
      rw [rounds_succ]
      go_wp2
      rw [rounds_succ]
      go_wp2
      rw [rounds_succ]
      go_wp2
      go_ret2
      exact ⟨rfl, HB_1.out⟩
    · obtain rfl : y = vx := e1.symm.trans hvx
      obtain rfl : -x = vy := e2.symm.trans hvy
      clear e1 e2 hvx hvy hp ht0 ht1
      go_wp2
      refine wp_loop_rounds 5 ?_
      rw [rounds_succ]
      go_wp2
      rw [rounds_succ]
      go_wp2
      rw [rounds_succ]
      go_wp2
      rw [rounds_succ]
      go_wp2
      go_ret2
      exact ⟨rfl, HB_1.out⟩
  · rw [Bool.not_eq_true] at hp
    rw [hp]
    obtain ⟨e1, e2⟩ := q_no hp
    obtain rfl : 0 = vx := e1.symm.trans hvx
    obtain rfl : 0 = vy := e2.symm.trans hvy
    clear hp e1 e2 hvx hvy
    go_wp2
    go_ret2
    exact ⟨rfl, HB_1.out⟩
set_option maxRecDepth 100000 in
set_option maxHeartbeats 4000000 in
theorem composed_spec (t x y u a b : Int) (w : World) :
    Calls Tryd.prog 64 #[.agg #[.int .i64 t, .int .i64 x, .int .i64 y], .agg #[.int .i64 u, .int .i64 a, .int .i64 b]] w (IsPB (cT t x y u a b) (cX t x y u a b) (cY t x y u a b) (cOk t x y u a b) w) := by
  go_enter Tryd.func64, Tryd.ntmps64
  have HB_0 := Lib.hid ((((Below.refl w.heap.size w).alloc (Nat.le_refl _) (.cells #[.int .i64 t, .int .i64 x, .int .i64 y] 24)).alloc (by simp) (.cells #[.int .i64 u, .int .i64 a, .int .i64 b] 24)).alloc (by simp; omega) (.cells #[.int .i64 0, .int .i64 0, .int .i64 0] 24))
  have K_p_0 := Lib.hid (((HeldL.new_at w (w.heap.size) [.int .i64 t, .int .i64 x, .int .i64 y] 24 (by first | rfl | simp)).alloc (.cells #[.int .i64 u, .int .i64 a, .int .i64 b] 24)).alloc (.cells #[.int .i64 0, .int .i64 0, .int .i64 0] 24))
  have K_q_0 := Lib.hid ((HeldL.new_at (w.alloc (.cells #[.int .i64 t, .int .i64 x, .int .i64 y] 24)) (w.heap.size + 1) [.int .i64 u, .int .i64 a, .int .i64 b] 24 (by first | rfl | simp)).alloc (.cells #[.int .i64 0, .int .i64 0, .int .i64 0] 24))
  have K_r_0 := Lib.hid (HeldL.new_at ((w.alloc (.cells #[.int .i64 t, .int .i64 x, .int .i64 y] 24)).alloc (.cells #[.int .i64 u, .int .i64 a, .int .i64 b] 24)) (w.heap.size + 1 + 1) [.int .i64 0, .int .i64 0, .int .i64 0] 24 (by first | rfl | simp))
  have hne_p_q : w.heap.size ≠ w.heap.size + 1 := by omega
  have hne_p_r : w.heap.size ≠ w.heap.size + 1 + 1 := by omega
  have hne_q_p : w.heap.size + 1 ≠ w.heap.size := by omega
  have hne_q_r : w.heap.size + 1 ≠ w.heap.size + 1 + 1 := by omega
  have hne_r_p : w.heap.size + 1 + 1 ≠ w.heap.size := by omega
  have hne_r_q : w.heap.size + 1 + 1 ≠ w.heap.size + 1 := by omega
  go_wp2_with fail
  refine (validP_spec t x y _).mono ?_
  rintro e w1 ⟨rfl, hb⟩
  have K_p_1 := Lib.hid (K_p_0.out.after hb)
  have K_q_1 := Lib.hid (K_q_0.out.after hb)
  have K_r_1 := Lib.hid (K_r_0.out.after hb)
  have HB_1 := Lib.hid (HB_0.out.trans (hb.mono HB_0.out.size))
  clear hb
  by_cases hp : ok t x y = true
  · rw [hp]
    have hk_q_0_1 := K_q_1.out.cell 0 _ rfl
    have hk_q_1_1 := K_q_1.out.cell 1 _ rfl
    have hk_q_2_1 := K_q_1.out.cell 2 _ rfl
    go_wp2_with fail
    refine (validP_spec u a b _).mono ?_
    rintro e w2 ⟨rfl, hb⟩
    have K_p_2 := Lib.hid (K_p_1.out.after hb)
    have K_q_2 := Lib.hid (K_q_1.out.after hb)
    have K_r_2 := Lib.hid (K_r_1.out.after hb)
    have HB_2 := Lib.hid (HB_1.out.trans (hb.mono HB_1.out.size))
    clear hb
    by_cases hq : ok u a b = true
    · rw [hq]
      obtain ⟨⟨ht0, ht1⟩, hx, hy⟩ := ok_iff.mp hp
      obtain ⟨⟨hu0, hu1⟩, ha, hb⟩ := ok_iff.mp hq
      have hr := q_yes (ok_yes ⟨⟨ht0, ht1⟩, ha, hb⟩)
      have HR := Lib.hid hr
      have HP := Lib.hid hp
      have HQ := Lib.hid hq
      clear hp hq hr
      have hvx := rX_bd (t := t) ha hb
      have hvy := rY_bd (t := t) ha hb
      clear hb ha
      obtain ⟨vx, ex⟩ : ∃ z, rX t a b = z := ⟨_, rfl⟩
      obtain ⟨vy, ey⟩ : ∃ z, rY t a b = z := ⟨_, rfl⟩
      rw [ex] at hvx
      rw [ey] at hvy
      have EX := Lib.hid ex
      have EY := Lib.hid ey
      clear ex ey
      clear hk_q_0_1
      clear hk_q_1_1
      clear hk_q_2_1
      have hk_p_0_2 := K_p_2.out.cell 0 _ rfl
      have hk_p_1_2 := K_p_2.out.cell 1 _ rfl
      have hk_p_2_2 := K_p_2.out.cell 2 _ rfl
      have hk_q_0_2 := K_q_2.out.cell 0 _ rfl
      have hk_q_1_2 := K_q_2.out.cell 1 _ rfl
      have hk_q_2_2 := K_q_2.out.cell 2 _ rfl
      go_wp2_with fail
      refine (rotateXY_spec a b t _).mono ?_
      rintro e w3 ⟨rfl, hb⟩
      rw [HR.out.1, HR.out.2, EX.out, EY.out]
      have K_p_3 := Lib.hid (K_p_2.out.after hb)
      have K_q_3 := Lib.hid (K_q_2.out.after hb)
      have K_r_3 := Lib.hid (K_r_2.out.after hb)
      have HB_3 := Lib.hid (HB_2.out.trans (hb.mono HB_2.out.size))
      clear hb
      have ec : cOk t x y u a b = ok ((t + u) % 4) (x + vx) (y + vy) := by simp only [cOk, HP.out, HQ.out, Bool.true_and, EX.out, EY.out]
      have EC := Lib.hid ec
      clear ec
      clear hk_p_0_2
      clear hk_p_1_2
      clear hk_p_2_2
      clear hk_q_0_2
      clear hk_q_1_2
      clear hk_q_2_2
      have hk_p_0_3 := K_p_3.out.cell 0 _ rfl
      have hk_p_1_3 := K_p_3.out.cell 1 _ rfl
      have hk_p_2_3 := K_p_3.out.cell 2 _ rfl
      have hk_q_0_3 := K_q_3.out.cell 0 _ rfl
      have hk_q_1_3 := K_q_3.out.cell 1 _ rfl
      have hk_q_2_3 := K_q_3.out.cell 2 _ rfl
      go_wp2_with fail
      have K_p_4 := Lib.hid (K_p_3.out.alloc (.cells #[.int .i64 ((t + u) % 4), .int .i64 (x + vx), .int .i64 (y + vy)] 24))
      have hne_p_c : w.heap.size ≠ w3.heap.size := by have := K_p_3.out.lt; omega
      have hne_c_p : w3.heap.size ≠ w.heap.size := by have := K_p_3.out.lt; omega
      have K_q_4 := Lib.hid (K_q_3.out.alloc (.cells #[.int .i64 ((t + u) % 4), .int .i64 (x + vx), .int .i64 (y + vy)] 24))
      have hne_q_c : w.heap.size + 1 ≠ w3.heap.size := by have := K_q_3.out.lt; omega
      have hne_c_q : w3.heap.size ≠ w.heap.size + 1 := by have := K_q_3.out.lt; omega
      have K_r_4 := Lib.hid (K_r_3.out.alloc (.cells #[.int .i64 ((t + u) % 4), .int .i64 (x + vx), .int .i64 (y + vy)] 24))
      have hne_r_c : w.heap.size + 1 + 1 ≠ w3.heap.size := by have := K_r_3.out.lt; omega
      have hne_c_r : w3.heap.size ≠ w.heap.size + 1 + 1 := by have := K_r_3.out.lt; omega
      have K_c_4 := Lib.hid (HeldL.new w3 [.int .i64 ((t + u) % 4), .int .i64 (x + vx), .int .i64 (y + vy)] 24)
      have HB_4 := Lib.hid (HB_3.out.alloc HB_3.out.size (.cells #[.int .i64 ((t + u) % 4), .int .i64 (x + vx), .int .i64 (y + vy)] 24))
      refine (validP_spec ((t + u) % 4) (x + vx) (y + vy) _).mono ?_
      rintro e w4 ⟨rfl, hb⟩
      have K_p_5 := Lib.hid (K_p_4.out.after hb)
      have K_q_5 := Lib.hid (K_q_4.out.after hb)
      have K_r_5 := Lib.hid (K_r_4.out.after hb)
      have K_c_5 := Lib.hid (K_c_4.out.after hb)
      have HB_5 := Lib.hid (HB_4.out.trans (hb.mono HB_4.out.size))
      clear hb
      have ec := EC.out
      by_cases hc : ok ((t + u) % 4) (x + vx) (y + vy) = true
      · rw [hc] at ec ⊢
        obtain ⟨e1, e2, e3⟩ := c_yes ec
        rw [EX.out] at e2
        rw [EY.out] at e3
        have E0 := Lib.hid ec
        have E1 := Lib.hid e1
        have E2 := Lib.hid e2
        have E3 := Lib.hid e3
        clear ec e1 e2 e3
        clear hc
        clear hk_p_0_3
        clear hk_p_1_3
        clear hk_p_2_3
        clear hk_q_0_3
        clear hk_q_1_3
        clear hk_q_2_3
        have hk_c_0_5 := K_c_5.out.cell 0 _ rfl
        have hk_c_1_5 := K_c_5.out.cell 1 _ rfl
        have hk_c_2_5 := K_c_5.out.cell 2 _ rfl
        have hk_r_0_5 := K_r_5.out.cell 0 _ rfl
        have hk_r_0_5f := K_r_5.out.froz 0 _ rfl
        have hk_r_1_5 := K_r_5.out.cell 1 _ rfl
        have hk_r_1_5f := K_r_5.out.froz 1 _ rfl
        have hk_r_2_5 := K_r_5.out.cell 2 _ rfl
        have hk_r_2_5f := K_r_5.out.froz 2 _ rfl
        go_wp2
        have hr0 := K_r_5.out.cell 0 _ rfl
        have hr1 := K_r_5.out.cell 1 _ rfl
        have hr2 := K_r_5.out.cell 2 _ rfl
        refine bodyPost_ret (v := .tuple #[.agg #[.int .i64 ((t + u) % 4), .int .i64 (x + vx), .int .i64 (y + vy)], .bool true]) (by simp [results, Tryd.results64, go_sem, hr0, hr1, hr2]) rfl ⟨by rw [E0.out, E1.out, E2.out, E3.out], ?_⟩
        exact (((HB_5.out.setCell (p := ⟨w.heap.size + 1 + 1, 0, none⟩) (by simp; try omega) _).setCell (p := ⟨w.heap.size + 1 + 1, 1, none⟩) (by simp; try omega) _).setCell (p := ⟨w.heap.size + 1 + 1, 2, none⟩) (by simp; try omega) _)
      · rw [Bool.not_eq_true] at hc
        rw [hc] at ec ⊢
        obtain ⟨e1, e2, e3⟩ := c_no ec
        have E0 := Lib.hid ec
        have E1 := Lib.hid e1
        have E2 := Lib.hid e2
        have E3 := Lib.hid e3
        clear ec e1 e2 e3
        clear hc
        clear hk_p_0_3
        clear hk_p_1_3
        clear hk_p_2_3
        clear hk_q_0_3
        clear hk_q_1_3
        clear hk_q_2_3
        have hk_r_0_5 := K_r_5.out.cell 0 _ rfl
        have hk_r_0_5f := K_r_5.out.froz 0 _ rfl
        have hk_r_1_5 := K_r_5.out.cell 1 _ rfl
        have hk_r_1_5f := K_r_5.out.froz 1 _ rfl
        have hk_r_2_5 := K_r_5.out.cell 2 _ rfl
        have hk_r_2_5f := K_r_5.out.froz 2 _ rfl
        go_wp2
        have hr0 := K_r_5.out.cell 0 _ rfl
        have hr1 := K_r_5.out.cell 1 _ rfl
        have hr2 := K_r_5.out.cell 2 _ rfl
        refine bodyPost_ret (v := .tuple #[.agg #[.int .i64 0, .int .i64 0, .int .i64 0], .bool false]) (by simp [results, Tryd.results64, go_sem, hr0, hr1, hr2]) rfl ⟨by rw [E0.out, E1.out, E2.out, E3.out], ?_⟩
        exact (((HB_5.out.setCell (p := ⟨w.heap.size + 1 + 1, 0, none⟩) (by simp; try omega) _).setCell (p := ⟨w.heap.size + 1 + 1, 1, none⟩) (by simp; try omega) _).setCell (p := ⟨w.heap.size + 1 + 1, 2, none⟩) (by simp; try omega) _)
    · rw [Bool.not_eq_true] at hq
      rw [hq]
      have ec : cOk t x y u a b = false := by simp [cOk, hq]
      obtain ⟨e1, e2, e3⟩ := c_no ec
      have E0 := Lib.hid ec
      have E1 := Lib.hid e1
      have E2 := Lib.hid e2
      have E3 := Lib.hid e3
      clear ec e1 e2 e3
      clear hk_q_0_1
      clear hk_q_1_1
      clear hk_q_2_1
      have hk_r_0_2 := K_r_2.out.cell 0 _ rfl
      have hk_r_0_2f := K_r_2.out.froz 0 _ rfl
      have hk_r_1_2 := K_r_2.out.cell 1 _ rfl
      have hk_r_1_2f := K_r_2.out.froz 1 _ rfl
      have hk_r_2_2 := K_r_2.out.cell 2 _ rfl
      have hk_r_2_2f := K_r_2.out.froz 2 _ rfl
      go_wp2
      have hr0 := K_r_2.out.cell 0 _ rfl
      have hr1 := K_r_2.out.cell 1 _ rfl
      have hr2 := K_r_2.out.cell 2 _ rfl
      refine bodyPost_ret (v := .tuple #[.agg #[.int .i64 0, .int .i64 0, .int .i64 0], .bool false]) (by simp [results, Tryd.results64, go_sem, hr0, hr1, hr2]) rfl ⟨by rw [E0.out, E1.out, E2.out, E3.out], ?_⟩
      exact (((HB_2.out.setCell (p := ⟨w.heap.size + 1 + 1, 0, none⟩) (by simp; try omega) _).setCell (p := ⟨w.heap.size + 1 + 1, 1, none⟩) (by simp; try omega) _).setCell (p := ⟨w.heap.size + 1 + 1, 2, none⟩) (by simp; try omega) _)
  · rw [Bool.not_eq_true] at hp
    rw [hp]
    have ec : cOk t x y u a b = false := by simp [cOk, hp]
    obtain ⟨e1, e2, e3⟩ := c_no ec
    have E0 := Lib.hid ec
    have E1 := Lib.hid e1
    have E2 := Lib.hid e2
    have E3 := Lib.hid e3
    clear ec e1 e2 e3
    have hk_r_0_1 := K_r_1.out.cell 0 _ rfl
    have hk_r_0_1f := K_r_1.out.froz 0 _ rfl
    have hk_r_1_1 := K_r_1.out.cell 1 _ rfl
    have hk_r_1_1f := K_r_1.out.froz 1 _ rfl
    have hk_r_2_1 := K_r_1.out.cell 2 _ rfl
    have hk_r_2_1f := K_r_1.out.froz 2 _ rfl
    go_wp2
    have hr0 := K_r_1.out.cell 0 _ rfl
    have hr1 := K_r_1.out.cell 1 _ rfl
    have hr2 := K_r_1.out.cell 2 _ rfl
    refine bodyPost_ret (v := .tuple #[.agg #[.int .i64 0, .int .i64 0, .int .i64 0], .bool false]) (by simp [results, Tryd.results64, go_sem, hr0, hr1, hr2]) rfl ⟨by rw [E0.out, E1.out, E2.out, E3.out], ?_⟩
    exact (((HB_1.out.setCell (p := ⟨w.heap.size + 1 + 1, 0, none⟩) (by simp; try omega) _).setCell (p := ⟨w.heap.size + 1 + 1, 1, none⟩) (by simp; try omega) _).setCell (p := ⟨w.heap.size + 1 + 1, 2, none⟩) (by simp; try omega) _)
set_option maxRecDepth 100000 in
set_option maxHeartbeats 4000000 in
theorem compose_spec (t x y u a b : Int) (w : World) :
    Calls Tryd.prog 26 #[.agg #[.int .i64 t, .int .i64 x, .int .i64 y], .agg #[.int .i64 u, .int .i64 a, .int .i64 b]] w (IsP (cT t x y u a b) (cX t x y u a b) (cY t x y u a b) w) := by
  obtain ⟨ct, hct⟩ : ∃ z, cT t x y u a b = z := ⟨_, rfl⟩
  have Hct := Lib.hid hct
  rw [hct]
  clear hct
  obtain ⟨cx, hcx⟩ : ∃ z, cX t x y u a b = z := ⟨_, rfl⟩
  have Hcx := Lib.hid hcx
  rw [hcx]
  clear hcx
  obtain ⟨cy, hcy⟩ : ∃ z, cY t x y u a b = z := ⟨_, rfl⟩
  have Hcy := Lib.hid hcy
  rw [hcy]
  clear hcy
  go_enter Tryd.func26, Tryd.ntmps26
  have HB_0 := Lib.hid ((((Below.refl w.heap.size w).alloc (Nat.le_refl _) (.cells #[.int .i64 t, .int .i64 x, .int .i64 y] 24)).alloc (by simp) (.cells #[.int .i64 u, .int .i64 a, .int .i64 b] 24)).alloc (by simp; omega) (.cells #[.int .i64 0, .int .i64 0, .int .i64 0] 24))
  have K_p_0 := Lib.hid (((HeldL.new_at w (w.heap.size) [.int .i64 t, .int .i64 x, .int .i64 y] 24 (by first | rfl | simp)).alloc (.cells #[.int .i64 u, .int .i64 a, .int .i64 b] 24)).alloc (.cells #[.int .i64 0, .int .i64 0, .int .i64 0] 24))
  have K_q_0 := Lib.hid ((HeldL.new_at (w.alloc (.cells #[.int .i64 t, .int .i64 x, .int .i64 y] 24)) (w.heap.size + 1) [.int .i64 u, .int .i64 a, .int .i64 b] 24 (by first | rfl | simp)).alloc (.cells #[.int .i64 0, .int .i64 0, .int .i64 0] 24))
  have K_r_0 := Lib.hid (HeldL.new_at ((w.alloc (.cells #[.int .i64 t, .int .i64 x, .int .i64 y] 24)).alloc (.cells #[.int .i64 u, .int .i64 a, .int .i64 b] 24)) (w.heap.size + 1 + 1) [.int .i64 0, .int .i64 0, .int .i64 0] 24 (by first | rfl | simp))
  have hne_p_q : w.heap.size ≠ w.heap.size + 1 := by omega
  have hne_p_r : w.heap.size ≠ w.heap.size + 1 + 1 := by omega
  have hne_q_p : w.heap.size + 1 ≠ w.heap.size := by omega
  have hne_q_r : w.heap.size + 1 ≠ w.heap.size + 1 + 1 := by omega
  have hne_r_p : w.heap.size + 1 + 1 ≠ w.heap.size := by omega
  have hne_r_q : w.heap.size + 1 + 1 ≠ w.heap.size + 1 := by omega
  go_wp2_with fail
  refine (composed_spec t x y u a b _).mono ?_
  rintro e w1 ⟨rfl, hb⟩
  rw [Hct.out, Hcx.out, Hcy.out]
  have K_p_1 := Lib.hid (K_p_0.out.after hb)
  have K_q_1 := Lib.hid (K_q_0.out.after hb)
  have K_r_1 := Lib.hid (K_r_0.out.after hb)
  have HB_1 := Lib.hid (HB_0.out.trans (hb.mono HB_0.out.size))
  clear hb
  have hk_r_0_1 := K_r_1.out.cell 0 _ rfl
  have hk_r_0_1f := K_r_1.out.froz 0 _ rfl
  have hk_r_1_1 := K_r_1.out.cell 1 _ rfl
  have hk_r_1_1f := K_r_1.out.froz 1 _ rfl
  have hk_r_2_1 := K_r_1.out.cell 2 _ rfl
  have hk_r_2_1f := K_r_1.out.froz 2 _ rfl
  have hlr := K_r_1.out.lt
  go_wp2
  have T := (((HB_1.out.setCell (p := ⟨w.heap.size + 1 + 1, 0, none⟩) (by simp; try omega) (.int .i64 ct)).setCell (p := ⟨w.heap.size + 1 + 1, 1, none⟩) (by simp; try omega) (.int .i64 cx)).setCell (p := ⟨w.heap.size + 1 + 1, 2, none⟩) (by simp; try omega) (.int .i64 cy))
  exact bodyPost_ret (v := .agg #[.int .i64 ct, .int .i64 cx, .int .i64 cy]) (by simp [results, Tryd.results26, go_sem, hk_r_0_1, hk_r_1_1, hk_r_2_1, hlr]) rfl ⟨rfl, T.alloc T.size _⟩
end Go.Proofs.YtdilgjakodimbaaDoor
