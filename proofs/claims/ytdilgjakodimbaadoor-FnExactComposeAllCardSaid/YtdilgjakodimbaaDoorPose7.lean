/- Poses: Inverse and Between of the model. Conditions: none. -/
import Derived.Test.YtdilgjakodimbaaDoorPose6
import Derived.Deep.DeepCutAuto
namespace Go.Proofs.YtdilgjakodimbaaDoor
open Go.RowKit Po
set_option linter.unusedVariables false

set_option maxRecDepth 100000 in
set_option maxHeartbeats 4000000 in
theorem inverse_spec (t x y : Int) (w : World) :
    Calls Tryd.prog 29 #[.agg #[.int .i64 t, .int .i64 x, .int .i64 y]] w (IsP (iT t x y) (iX t x y) (iY t x y) w) := by
  obtain ⟨it, hit⟩ : ∃ z, iT t x y = z := ⟨_, rfl⟩
  rw [hit]
  obtain ⟨ix, hix⟩ : ∃ z, iX t x y = z := ⟨_, rfl⟩
  rw [hix]
  obtain ⟨iy, hiy⟩ : ∃ z, iY t x y = z := ⟨_, rfl⟩
  rw [hiy]
  go_enter Tryd.func29, Tryd.ntmps29
  have HB_0 := Lib.hid (((Below.refl w.heap.size w).alloc (Nat.le_refl _) (.cells #[.int .i64 t, .int .i64 x, .int .i64 y] 24)).alloc (by simp) (.cells #[.int .i64 0, .int .i64 0, .int .i64 0] 24))
  have K_p_0 := Lib.hid ((HeldL.new_at w (w.heap.size) [.int .i64 t, .int .i64 x, .int .i64 y] 24 (by first | rfl | simp)).alloc (.cells #[.int .i64 0, .int .i64 0, .int .i64 0] 24))
  have K_r_0 := Lib.hid (HeldL.new_at (w.alloc (.cells #[.int .i64 t, .int .i64 x, .int .i64 y] 24)) (w.heap.size + 1) [.int .i64 0, .int .i64 0, .int .i64 0] 24 (by first | rfl | simp))
  have hne_p_r : w.heap.size ≠ w.heap.size + 1 := by omega
  have hne_r_p : w.heap.size + 1 ≠ w.heap.size := by omega
  go_wp2_with fail
  refine (validP_spec t x y _).mono ?_
  rintro e w1 ⟨rfl, hb⟩
  have K_p_1 := Lib.hid (K_p_0.out.after hb)
  have K_r_1 := Lib.hid (K_r_0.out.after hb)
  have HB_1 := Lib.hid (HB_0.out.trans (hb.mono HB_0.out.size))
  clear hb
  by_cases hp : ok t x y = true
  · rw [hp]
    obtain ⟨⟨ht0, ht1⟩, hx, hy⟩ := ok_iff.mp hp
    obtain ⟨e1, e2, e3⟩ := i_yes hp
    have hk : 0 ≤ (4 - t) % 4 ∧ (4 - t) % 4 ≤ 3 := by omega
    have hr := q_yes (t := (4 - t) % 4) (x := -x) (y := -y) (ok_yes ⟨hk, by omega, by omega⟩)
    rw [rX_neg, rY_neg] at hr
    rw [← e2, ← e3, hix, hiy] at hr
    have hm : (4 - t) % 4 = -t % 4 := by omega
    rw [hm] at hr
    have HR := Lib.hid hr
    have HM := Lib.hid hm
    obtain rfl : (4 - t) % 4 = it := e1.symm.trans hit
    clear hm
    clear hr hix hiy hit e1 e2 e3 hp hk
    have hk_p_0_1 := K_p_1.out.cell 0 _ rfl
    have hk_p_1_1 := K_p_1.out.cell 1 _ rfl
    have hk_p_2_1 := K_p_1.out.cell 2 _ rfl
    go_wp2_with fail
    refine (rotateXY_spec (-x) (-y) (-t % 4) _).mono ?_
    rintro e w2 ⟨rfl, hb⟩
    rw [HR.out.1, HR.out.2]
    have K_p_2 := Lib.hid (K_p_1.out.after hb)
    have K_r_2 := Lib.hid (K_r_1.out.after hb)
    have HB_2 := Lib.hid (HB_1.out.trans (hb.mono HB_1.out.size))
    clear hb
    clear hk_p_0_1
    clear hk_p_1_1
    clear hk_p_2_1
    have hk_r_0_2 := K_r_2.out.cell 0 _ rfl
    have hk_r_0_2f := K_r_2.out.froz 0 _ rfl
    have hk_r_1_2 := K_r_2.out.cell 1 _ rfl
    have hk_r_1_2f := K_r_2.out.froz 1 _ rfl
    have hk_r_2_2 := K_r_2.out.cell 2 _ rfl
    have hk_r_2_2f := K_r_2.out.froz 2 _ rfl
    go_wp2
    have hr0 := K_r_2.out.cell 0 _ rfl
    have hr1 := K_r_2.out.cell 1 _ rfl
    have hr2 := K_r_2.out.cell 2 _ rfl
    refine bodyPost_ret (v := .agg #[.int .i64 (-t % 4), .int .i64 ix, .int .i64 iy]) (by simp [results, Tryd.results29, go_sem, hr0, hr1, hr2]) rfl ⟨by first | rfl | rw [HM.out], ?_⟩
    exact (((HB_2.out.setCell (p := ⟨w.heap.size + 1, 0, none⟩) (by simp; try omega) _).setCell (p := ⟨w.heap.size + 1, 1, none⟩) (by simp; try omega) _).setCell (p := ⟨w.heap.size + 1, 2, none⟩) (by simp; try omega) _)
  · rw [Bool.not_eq_true] at hp
    rw [hp]
    obtain ⟨e1, e2, e3⟩ := i_no hp
    obtain rfl : 0 = it := e1.symm.trans hit
    obtain rfl : 0 = ix := e2.symm.trans hix
    obtain rfl : 0 = iy := e3.symm.trans hiy
    clear hp e1 e2 e3 hit hix hiy
    have hk_r_0_1 := K_r_1.out.cell 0 _ rfl
    have hk_r_0_1f := K_r_1.out.froz 0 _ rfl
    have hk_r_1_1 := K_r_1.out.cell 1 _ rfl
    have hk_r_1_1f := K_r_1.out.froz 1 _ rfl
    have hk_r_2_1 := K_r_1.out.cell 2 _ rfl
    have hk_r_2_1f := K_r_1.out.froz 2 _ rfl
    go_wp2
    have hr0 := K_r_1.out.cell 0 _ rfl
    have hr1 := K_r_1.out.cell 1 _ rfl
    have hr2 := K_r_1.out.cell 2 _ rfl
    refine bodyPost_ret (v := .agg #[.int .i64 0, .int .i64 0, .int .i64 0]) (by simp [results, Tryd.results29, go_sem, hr0, hr1, hr2]) rfl ⟨rfl, ?_⟩
    exact (((HB_1.out.setCell (p := ⟨w.heap.size + 1, 0, none⟩) (by simp; try omega) _).setCell (p := ⟨w.heap.size + 1, 1, none⟩) (by simp; try omega) _).setCell (p := ⟨w.heap.size + 1, 2, none⟩) (by simp; try omega) _)
set_option maxRecDepth 100000 in
set_option maxHeartbeats 4000000 in
theorem between_spec (t x y u a b : Int) (w : World) :
    Calls Tryd.prog 30 #[.agg #[.int .i64 t, .int .i64 x, .int .i64 y], .agg #[.int .i64 u, .int .i64 a, .int .i64 b]] w (IsP (bT t x y u a b) (bX t x y u a b) (bY t x y u a b) w) := by
  obtain ⟨bt, hbt⟩ : ∃ z, bT t x y u a b = z := ⟨_, rfl⟩
  have Hbt := Lib.hid hbt
  rw [hbt]
  clear hbt
  obtain ⟨bx, hbx⟩ : ∃ z, bX t x y u a b = z := ⟨_, rfl⟩
  have Hbx := Lib.hid hbx
  rw [hbx]
  clear hbx
  obtain ⟨by_, hby_⟩ : ∃ z, bY t x y u a b = z := ⟨_, rfl⟩
  have Hby_ := Lib.hid hby_
  rw [hby_]
  clear hby_
  obtain ⟨it, hit⟩ : ∃ z, iT t x y = z := ⟨_, rfl⟩
  have Hit := Lib.hid hit
  obtain ⟨ix, hix⟩ : ∃ z, iX t x y = z := ⟨_, rfl⟩
  have Hix := Lib.hid hix
  obtain ⟨iy, hiy⟩ : ∃ z, iY t x y = z := ⟨_, rfl⟩
  have Hiy := Lib.hid hiy
  unfold bT at Hbt
  unfold bX at Hbx
  unfold bY at Hby_
  rw [hit, hix, hiy] at Hbt Hbx Hby_
  clear hit hix hiy
  go_enter Tryd.func30, Tryd.ntmps30
  have HB_0 := Lib.hid ((((Below.refl w.heap.size w).alloc (Nat.le_refl _) (.cells #[.int .i64 t, .int .i64 x, .int .i64 y] 24)).alloc (by simp) (.cells #[.int .i64 u, .int .i64 a, .int .i64 b] 24)).alloc (by simp; omega) (.cells #[.int .i64 0, .int .i64 0, .int .i64 0] 24))
  have K_p_0 := Lib.hid (((HeldL.new_at w (w.heap.size) [.int .i64 t, .int .i64 x, .int .i64 y] 24 (by first | rfl | simp)).alloc (.cells #[.int .i64 u, .int .i64 a, .int .i64 b] 24)).alloc (.cells #[.int .i64 0, .int .i64 0, .int .i64 0] 24))
  have K_q_0 := Lib.hid ((HeldL.new_at (w.alloc (.cells #[.int .i64 t, .int .i64 x, .int .i64 y] 24)) (w.heap.size + 1) [.int .i64 u, .int .i64 a, .int .i64 b] 24 (by first | rfl | simp)).alloc (.cells #[.int .i64 0, .int .i64 0, .int .i64 0] 24))
  have K_r_0 := Lib.hid (HeldL.new_at ((w.alloc (.cells #[.int .i64 t, .int .i64 x, .int .i64 y] 24)).alloc (.cells #[.int .i64 u, .int .i64 a, .int .i64 b] 24)) (w.heap.size + 1 + 1) [.int .i64 0, .int .i64 0, .int .i64 0] 24 (by first | rfl | simp))
  have hne_p_q : w.heap.size ≠ w.heap.size + 1 := by omega
  have hne_p_r : w.heap.size ≠ w.heap.size + 1 + 1 := by omega
  have hne_q_p : w.heap.size + 1 ≠ w.heap.size := by omega
  have hne_q_r : w.heap.size + 1 ≠ w.heap.size + 1 + 1 := by omega
  have hne_r_p : w.heap.size + 1 + 1 ≠ w.heap.size := by omega
  have hne_r_q : w.heap.size + 1 + 1 ≠ w.heap.size + 1 := by omega
  have hk_p_0_0 := K_p_0.out.cell 0 _ rfl
  have hk_p_1_0 := K_p_0.out.cell 1 _ rfl
  have hk_p_2_0 := K_p_0.out.cell 2 _ rfl
  have hk_q_0_0 := K_q_0.out.cell 0 _ rfl
  have hk_q_1_0 := K_q_0.out.cell 1 _ rfl
  have hk_q_2_0 := K_q_0.out.cell 2 _ rfl
  have hk_r_0_0 := K_r_0.out.cell 0 _ rfl
  have hk_r_0_0f := K_r_0.out.froz 0 _ rfl
  have hk_r_1_0 := K_r_0.out.cell 1 _ rfl
  have hk_r_1_0f := K_r_0.out.froz 1 _ rfl
  have hk_r_2_0 := K_r_0.out.cell 2 _ rfl
  have hk_r_2_0f := K_r_0.out.froz 2 _ rfl
  go_wp2
  go_region_held3 (fun w' => w'.cell? ⟨w.heap.size, 0, none⟩ = some (.int .i64 t) ∧ w'.cell? ⟨w.heap.size, 1, none⟩ = some (.int .i64 x) ∧ w'.cell? ⟨w.heap.size, 2, none⟩ = some (.int .i64 y) ∧ w'.cell? ⟨w.heap.size + 1, 0, none⟩ = some (.int .i64 u) ∧ w'.cell? ⟨w.heap.size + 1, 1, none⟩ = some (.int .i64 a) ∧ w'.cell? ⟨w.heap.size + 1, 2, none⟩ = some (.int .i64 b)) (go_keep)
    (first
      | (go_at_call 29
         refine (inverse_spec t x y _).mono ?_
         rintro e w1 ⟨rfl, hb⟩
         rw [Hit.out, Hix.out, Hiy.out]
         have K_p_1 := Lib.hid (K_p_0.out.drew.after hb)
         have K_q_1 := Lib.hid (K_q_0.out.drew.after hb)
         have K_r_1 := Lib.hid (K_r_0.out.drew.after hb)
         have HB_1 := Lib.hid (HB_0.out.drew.trans (hb.mono HB_0.out.drew.size))
         clear hb
         have hk_p_0_1 := K_p_1.out.cell 0 _ rfl
         have hk_p_1_1 := K_p_1.out.cell 1 _ rfl
         have hk_p_2_1 := K_p_1.out.cell 2 _ rfl
         have hk_q_0_1 := K_q_1.out.cell 0 _ rfl
         have hk_q_1_1 := K_q_1.out.cell 1 _ rfl
         have hk_q_2_1 := K_q_1.out.cell 2 _ rfl
         have hk_r_0_1 := K_r_1.out.cell 0 _ rfl
         have hk_r_0_1f := K_r_1.out.froz 0 _ rfl
         have hk_r_1_1 := K_r_1.out.cell 1 _ rfl
         have hk_r_1_1f := K_r_1.out.froz 1 _ rfl
         have hk_r_2_1 := K_r_1.out.cell 2 _ rfl
         have hk_r_2_1f := K_r_1.out.froz 2 _ rfl)
      | (go_at_call 26
         refine (compose_spec it ix iy u a b _).mono ?_
         rintro e w2 ⟨rfl, hb⟩
         rw [Hbt.out, Hbx.out, Hby_.out]
         have K_p_2 := Lib.hid (K_p_1.out.after hb)
         have K_q_2 := Lib.hid (K_q_1.out.after hb)
         have K_r_2 := Lib.hid (K_r_1.out.after hb)
         have HB_2 := Lib.hid (HB_1.out.trans (hb.mono HB_1.out.size))
         clear hb
         have hk_p_0_2 := K_p_2.out.cell 0 _ rfl
         have hk_p_1_2 := K_p_2.out.cell 1 _ rfl
         have hk_p_2_2 := K_p_2.out.cell 2 _ rfl
         have hk_q_0_2 := K_q_2.out.cell 0 _ rfl
         have hk_q_1_2 := K_q_2.out.cell 1 _ rfl
         have hk_q_2_2 := K_q_2.out.cell 2 _ rfl
         have hk_r_0_2 := K_r_2.out.cell 0 _ rfl
         have hk_r_0_2f := K_r_2.out.froz 0 _ rfl
         have hk_r_1_2 := K_r_2.out.cell 1 _ rfl
         have hk_r_1_2f := K_r_2.out.froz 1 _ rfl
         have hk_r_2_2 := K_r_2.out.cell 2 _ rfl
         have hk_r_2_2f := K_r_2.out.froz 2 _ rfl))
  go_wp2
  have hr0 := K_r_2.out.cell 0 _ rfl
  have hr1 := K_r_2.out.cell 1 _ rfl
  have hr2 := K_r_2.out.cell 2 _ rfl
  refine bodyPost_ret (v := .agg #[.int .i64 bt, .int .i64 bx, .int .i64 by_]) (by simp [results, Tryd.results30, go_sem, hr0, hr1, hr2]) rfl ⟨rfl, ?_⟩
  exact (((HB_2.out.setCell (p := ⟨w.heap.size + 1 + 1, 0, none⟩) (by simp; try omega) _).setCell (p := ⟨w.heap.size + 1 + 1, 1, none⟩) (by simp; try omega) _).setCell (p := ⟨w.heap.size + 1 + 1, 2, none⟩) (by simp; try omega) _)
end Go.Proofs.YtdilgjakodimbaaDoor
