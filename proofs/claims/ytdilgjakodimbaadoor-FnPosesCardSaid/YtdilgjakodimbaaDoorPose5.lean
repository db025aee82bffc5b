/- Poses: Compose, RotateXY, Inverse and Between of the program. Conditions: none. -/
import Derived.Test.YtdilgjakodimbaaDoorPose4
import Derived.Deep.DeepCutAuto
namespace Go.Proofs.YtdilgjakodimbaaDoor
open Go.RowKit Po
set_option linter.unusedVariables false

namespace Po
/-- The inverse of a pose. -/
def iT (t x y : Int) : Int := if ok t x y = true then (4 - t) % 4 else 0
def iX (t x y : Int) : Int := if ok t x y = true then -(rX ((4 - t) % 4) x y) else 0
def iY (t x y : Int) : Int := if ok t x y = true then -(rY ((4 - t) % 4) x y) else 0
theorem i_no {t x y : Int} (h : ok t x y = false) : iT t x y = 0 ∧ iX t x y = 0 ∧ iY t x y = 0 := by simp [iT, iX, iY, h]
theorem i_yes {t x y : Int} (h : ok t x y = true) : iT t x y = (4 - t) % 4 ∧ iX t x y = -(rX ((4 - t) % 4) x y) ∧ iY t x y = -(rY ((4 - t) % 4) x y) := by simp [iT, iX, iY, h]
/-- q relative to p. -/
def bT (t x y u a b : Int) : Int := cT (iT t x y) (iX t x y) (iY t x y) u a b
def bX (t x y u a b : Int) : Int := cX (iT t x y) (iX t x y) (iY t x y) u a b
def bY (t x y u a b : Int) : Int := cY (iT t x y) (iX t x y) (iY t x y) u a b
/-- A vector rotated, where it can be. -/
def qX (t x y : Int) : Int := if ok t x y = true then rX t x y else 0
def qY (t x y : Int) : Int := if ok t x y = true then rY t x y else 0
theorem q_no {t x y : Int} (h : ok t x y = false) : qX t x y = 0 ∧ qY t x y = 0 := by simp [qX, qY, h]
theorem q_yes {t x y : Int} (h : ok t x y = true) : qX t x y = rX t x y ∧ qY t x y = rY t x y := by simp [qX, qY, h]
theorem rX_neg (t x y : Int) : rX t (-x) (-y) = -(rX t x y) := by unfold rX; split; rfl; split; rfl; split <;> omega
theorem rY_neg (t x y : Int) : rY t (-x) (-y) = -(rY t x y) := by unfold rY; split; rfl; split; rfl; split <;> omega
end Po
set_option maxRecDepth 100000 in
set_option maxHeartbeats 4000000 in
theorem compose_impl (t x y u a b : Int) (w : World) (hl : LaidQ w) :
    Calls Tryd.prog 15 #[.agg #[.int .i64 t, .int .i64 x, .int .i64 y], .agg #[.int .i64 u, .int .i64 a, .int .i64 b]] w (IsP (cT t x y u a b) (cX t x y u a b) (cY t x y u a b) w) := by
  have HL := Lib.hid hl
  clear hl
  obtain ⟨ct, hct⟩ : ∃ z, cT t x y u a b = z := ⟨_, rfl⟩
  have Hct := Lib.hid hct
  rw [hct]
  clear hct
  obtain ⟨cx, hcx⟩ : ∃ z, cX t x y u a b = z := ⟨_, rfl⟩
  have Hcx := Lib.hid hcx
  rw [hcx]
  clear hcx
  obtain ⟨cy, hcy⟩ : ∃ z, cY t x y u a b = z := ⟨_, rfl⟩
  have Hcy := Lib.hid hcy
  rw [hcy]
  clear hcy
  go_enter Tryd.func15, Tryd.ntmps15
  have HB_0 := Lib.hid ((((Below.refl w.heap.size w).alloc (Nat.le_refl _) (.cells #[.int .i64 t, .int .i64 x, .int .i64 y] 24)).alloc (by simp) (.cells #[.int .i64 u, .int .i64 a, .int .i64 b] 24)).alloc (by simp; omega) (.cells #[.int .i64 0, .int .i64 0, .int .i64 0] 24))
  have K_p_0 := Lib.hid (((HeldL.new_at w (w.heap.size) [.int .i64 t, .int .i64 x, .int .i64 y] 24 (by first | rfl | simp)).alloc (.cells #[.int .i64 u, .int .i64 a, .int .i64 b] 24)).alloc (.cells #[.int .i64 0, .int .i64 0, .int .i64 0] 24))
  have K_q_0 := Lib.hid ((HeldL.new_at (w.alloc (.cells #[.int .i64 t, .int .i64 x, .int .i64 y] 24)) (w.heap.size + 1) [.int .i64 u, .int .i64 a, .int .i64 b] 24 (by first | rfl | simp)).alloc (.cells #[.int .i64 0, .int .i64 0, .int .i64 0] 24))
  have K_r_0 := Lib.hid (HeldL.new_at ((w.alloc (.cells #[.int .i64 t, .int .i64 x, .int .i64 y] 24)).alloc (.cells #[.int .i64 u, .int .i64 a, .int .i64 b] 24)) (w.heap.size + 1 + 1) [.int .i64 0, .int .i64 0, .int .i64 0] 24 (by first | rfl | simp))
  have hne_p_q : w.heap.size ≠ w.heap.size + 1 := by omega
  have hne_p_r : w.heap.size ≠ w.heap.size + 1 + 1 := by omega
  have hne_q_p : w.heap.size + 1 ≠ w.heap.size := by omega
  have hne_q_r : w.heap.size + 1 ≠ w.heap.size + 1 + 1 := by omega
  have hne_r_p : w.heap.size + 1 + 1 ≠ w.heap.size := by omega
  have hne_r_q : w.heap.size + 1 + 1 ≠ w.heap.size + 1 := by omega
  go_wp2_with fail
  refine (composed_any t x y u a b _ (HL.out.below HB_0.out)).mono ?_
  rintro e w1 ⟨rfl, hb⟩
  rw [Hct.out, Hcx.out, Hcy.out]
  have K_p_1 := Lib.hid (K_p_0.out.after hb)
  have K_q_1 := Lib.hid (K_q_0.out.after hb)
  have K_r_1 := Lib.hid (K_r_0.out.after hb)
  have HB_1 := Lib.hid (HB_0.out.trans (hb.mono HB_0.out.size))
  clear hb
  have hk_r_0_1 := K_r_1.out.cell 0 _ rfl
  have hk_r_0_1f := K_r_1.out.froz 0 _ rfl
  have hk_r_1_1 := K_r_1.out.cell 1 _ rfl
  have hk_r_1_1f := K_r_1.out.froz 1 _ rfl
  have hk_r_2_1 := K_r_1.out.cell 2 _ rfl
  have hk_r_2_1f := K_r_1.out.froz 2 _ rfl
  have hlr := K_r_1.out.lt
  go_wp2
  have T := (((HB_1.out.setCell (p := ⟨w.heap.size + 1 + 1, 0, none⟩) (by simp; try omega) (.int .i64 ct)).setCell (p := ⟨w.heap.size + 1 + 1, 1, none⟩) (by simp; try omega) (.int .i64 cx)).setCell (p := ⟨w.heap.size + 1 + 1, 2, none⟩) (by simp; try omega) (.int .i64 cy))
  exact bodyPost_ret (v := .agg #[.int .i64 ct, .int .i64 cx, .int .i64 cy]) (by simp [results, Tryd.results15, go_sem, hk_r_0_1, hk_r_1_1, hk_r_2_1, hlr]) rfl ⟨rfl, T.alloc T.size _⟩
set_option maxRecDepth 100000 in
set_option maxHeartbeats 4000000 in
theorem rotateXY_impl (x y t : Int) (w : World) (hl : LaidQ w) :
    Calls Tryd.prog 25 #[.int .i64 x, .int .i64 y, .int .i64 t] w fun e w' => e = .returned (.tuple #[.int .i64 (qX t x y), .int .i64 (qY t x y)]) ∧ Below w.heap.size w w' := by
  have HL := Lib.hid hl
  clear hl
  obtain ⟨vx, hvx⟩ : ∃ z, qX t x y = z := ⟨_, rfl⟩
  rw [hvx]
  obtain ⟨vy, hvy⟩ : ∃ z, qY t x y = z := ⟨_, rfl⟩
  rw [hvy]
  have HB_0 := Lib.hid (Below.refl w.heap.size w)
  go_enter Tryd.func25, Tryd.ntmps25
  go_wp2_with fail
  refine (validP_impl t x y _).mono ?_
  rintro e w1 ⟨rfl, hb⟩
  have HB_1 := Lib.hid (HB_0.out.trans (hb.mono HB_0.out.size))
  clear hb
  by_cases hp : ok t x y = true
  · rw [hp]
    obtain ⟨⟨ht0, ht1⟩, hx, hy⟩ := ok_iff.mp hp
    obtain ⟨e1, e2⟩ := q_yes hp
    have E1 := Lib.hid (e1.symm.trans hvx)
    have E2 := Lib.hid (e2.symm.trans hvy)
    clear e1 e2 hvx hvy hp
    have HX := Lib.hid hx
    have HY := Lib.hid hy
    clear hx hy
    obtain ⟨g0, g1, g2, g3⟩ := (HL.out.below HB_1.out).read ht0 ht1
    go_wp2_with fail
    clear g0 g1 g2 g3
    refine (rotate_any t x y _ ht0 ht1 HX.out HY.out).mono ?_
    rintro e w2 ⟨rfl, hb⟩
    rw [E1.out, E2.out]
    have HB_2 := Lib.hid (HB_1.out.trans (hb.mono HB_1.out.size))
    clear hb
    go_wp2
    go_region
    all_goals go_wp2
    all_goals go_ret2
    all_goals exact ⟨rfl, (HB_2.out.alloc HB_2.out.size _).drew⟩
  · rw [Bool.not_eq_true] at hp
    rw [hp]
    obtain ⟨e1, e2⟩ := q_no hp
    obtain rfl : 0 = vx := e1.symm.trans hvx
    obtain rfl : 0 = vy := e2.symm.trans hvy
    clear hp e1 e2 hvx hvy
    go_wp2
    go_ret2
    exact ⟨rfl, HB_1.out⟩
set_option maxRecDepth 100000 in
set_option maxHeartbeats 4000000 in
theorem inverse_impl (t x y : Int) (w : World) (hl : LaidQ w) :
    Calls Tryd.prog 16 #[.agg #[.int .i64 t, .int .i64 x, .int .i64 y]] w (IsP (iT t x y) (iX t x y) (iY t x y) w) := by
  have HL := Lib.hid hl
  clear hl
  obtain ⟨it, hit⟩ : ∃ z, iT t x y = z := ⟨_, rfl⟩
  rw [hit]
  obtain ⟨ix, hix⟩ : ∃ z, iX t x y = z := ⟨_, rfl⟩
  rw [hix]
  obtain ⟨iy, hiy⟩ : ∃ z, iY t x y = z := ⟨_, rfl⟩
  rw [hiy]
  go_enter Tryd.func16, Tryd.ntmps16
  have HB_0 := Lib.hid (((Below.refl w.heap.size w).alloc (Nat.le_refl _) (.cells #[.int .i64 t, .int .i64 x, .int .i64 y] 24)).alloc (by simp) (.cells #[.int .i64 0, .int .i64 0, .int .i64 0] 24))
  have K_p_0 := Lib.hid ((HeldL.new_at w (w.heap.size) [.int .i64 t, .int .i64 x, .int .i64 y] 24 (by first | rfl | simp)).alloc (.cells #[.int .i64 0, .int .i64 0, .int .i64 0] 24))
  have K_r_0 := Lib.hid (HeldL.new_at (w.alloc (.cells #[.int .i64 t, .int .i64 x, .int .i64 y] 24)) (w.heap.size + 1) [.int .i64 0, .int .i64 0, .int .i64 0] 24 (by first | rfl | simp))
  have hne_p_r : w.heap.size ≠ w.heap.size + 1 := by omega
  have hne_r_p : w.heap.size + 1 ≠ w.heap.size := by omega
  go_wp2_with fail
  refine (validP_impl t x y _).mono ?_
  rintro e w1 ⟨rfl, hb⟩
  have K_p_1 := Lib.hid (K_p_0.out.after hb)
  have K_r_1 := Lib.hid (K_r_0.out.after hb)
  have HB_1 := Lib.hid (HB_0.out.trans (hb.mono HB_0.out.size))
  clear hb
  by_cases hp : ok t x y = true
  · rw [hp]
    obtain ⟨⟨ht0, ht1⟩, hx, hy⟩ := ok_iff.mp hp
    obtain ⟨e1, e2, e3⟩ := i_yes hp
    obtain rfl : (4 - t) % 4 = it := e1.symm.trans hit
    obtain ⟨m1, m2, m3, m4⟩ := turn_back ht0 ht1
    obtain ⟨k, ek⟩ : ∃ z, (4 - t) % 4 = z := ⟨_, rfl⟩
    have EK := Lib.hid ek
    have hk : 0 ≤ k ∧ k ≤ 3 := by omega
    rw [ek] at m1 m2 m3 m4 e2 e3 ⊢
    have hvx := rX_bd (t := k) hx hy
    have hvy := rY_bd (t := k) hx hy
    obtain ⟨vx, ex⟩ : ∃ z, rX k x y = z := ⟨_, rfl⟩
    obtain ⟨vy, ey⟩ : ∃ z, rY k x y = z := ⟨_, rfl⟩
    rw [ex] at hvx e2
    rw [ey] at hvy e3
    have M := Lib.hid (And.intro m1 (And.intro m2 (And.intro m3 m4)))
    obtain rfl : -vx = ix := e2.symm.trans hix
    obtain rfl : -vy = iy := e3.symm.trans hiy
    have EX := Lib.hid ex
    have EY := Lib.hid ey
    have HX := Lib.hid hx
    have HY := Lib.hid hy
    have hwx : IntKind.i64.wrap (-vx) = -vx := IntWalk.i64_in _ (by omega)
    have hwy : IntKind.i64.wrap (-vy) = -vy := IntWalk.i64_in _ (by omega)
    clear ex ey hp hx hy m1 m2 m3 m4 ek e1 e2 e3 hit hix hiy
    have hk_p_0_1 := K_p_1.out.cell 0 _ rfl
    have hk_p_1_1 := K_p_1.out.cell 1 _ rfl
    have hk_p_2_1 := K_p_1.out.cell 2 _ rfl
    obtain ⟨g0, g1, g2, g3⟩ := (HL.out.below HB_1.out).read ht0 ht1
    go_wp2_with fail
    clear g0 g1 g2 g3
    refine (transposed_any _ _ _ _ _).mono ?_
    rintro e w2 ⟨rfl, hb⟩
    rw [M.out.1, M.out.2.1, M.out.2.2.1, M.out.2.2.2]
    have K_p_2 := Lib.hid (K_p_1.out.after hb)
    have K_r_2 := Lib.hid (K_r_1.out.after hb)
    have HB_2 := Lib.hid (HB_1.out.trans (hb.mono HB_1.out.size))
    clear hb
    clear hk_p_0_1
    clear hk_p_1_1
    clear hk_p_2_1
    have hk_p_0_2 := K_p_2.out.cell 0 _ rfl
    have hk_p_1_2 := K_p_2.out.cell 1 _ rfl
    have hk_p_2_2 := K_p_2.out.cell 2 _ rfl
    have hlp := K_p_2.out.lt
    go_wp2_with fail
    clear hlp
    clear hk_p_0_2
    clear hk_p_1_2
    clear hk_p_2_2
    have K_p_3 := Lib.hid (K_p_2.out.alloc (.cells #[.int .i64 (rX k 1 0), .int .i64 (rY k 1 0), .int .i64 (rX k 0 1), .int .i64 (rY k 0 1)] 76))
    have hne_p_m : w.heap.size ≠ w2.heap.size := by have := K_p_2.out.lt; omega
    have hne_m_p : w2.heap.size ≠ w.heap.size := by have := K_p_2.out.lt; omega
    have K_r_3 := Lib.hid (K_r_2.out.alloc (.cells #[.int .i64 (rX k 1 0), .int .i64 (rY k 1 0), .int .i64 (rX k 0 1), .int .i64 (rY k 0 1)] 76))
    have hne_r_m : w.heap.size + 1 ≠ w2.heap.size := by have := K_r_2.out.lt; omega
    have hne_m_r : w2.heap.size ≠ w.heap.size + 1 := by have := K_r_2.out.lt; omega
    have K_m_3 := Lib.hid (HeldL.new w2 [.int .i64 (rX k 1 0), .int .i64 (rY k 1 0), .int .i64 (rX k 0 1), .int .i64 (rY k 0 1)] 76)
    have HB_3 := Lib.hid (HB_2.out.alloc HB_2.out.size (.cells #[.int .i64 (rX k 1 0), .int .i64 (rY k 1 0), .int .i64 (rX k 0 1), .int .i64 (rY k 0 1)] 76))
    refine (rotate_any k x y _ hk.1 hk.2 HX.out HY.out).mono ?_
    rintro e w3 ⟨rfl, hb⟩
    rw [EX.out, EY.out]
    have K_p_4 := Lib.hid (K_p_3.out.after hb)
    have K_r_4 := Lib.hid (K_r_3.out.after hb)
    have K_m_4 := Lib.hid (K_m_3.out.after hb)
    have HB_4 := Lib.hid (HB_3.out.trans (hb.mono HB_3.out.size))
    clear hb
    have hk_r_0_4 := K_r_4.out.cell 0 _ rfl
    have hk_r_0_4f := K_r_4.out.froz 0 _ rfl
    have hk_r_1_4 := K_r_4.out.cell 1 _ rfl
    have hk_r_1_4f := K_r_4.out.froz 1 _ rfl
    have hk_r_2_4 := K_r_4.out.cell 2 _ rfl
    have hk_r_2_4f := K_r_4.out.froz 2 _ rfl
    have hk_m_0_4 := K_m_4.out.cell 0 _ rfl
    have hk_m_1_4 := K_m_4.out.cell 1 _ rfl
    have hk_m_2_4 := K_m_4.out.cell 2 _ rfl
    have hk_m_3_4 := K_m_4.out.cell 3 _ rfl
    have hlr := K_r_4.out.lt
    have hlm := K_m_4.out.lt
    go_upto_region 5 with fail
    clear hlr hlm
    clear hk_r_0_4
    clear hk_r_0_4f
    clear hk_r_1_4
    clear hk_r_1_4f
    clear hk_r_2_4
    clear hk_r_2_4f
    clear hk_m_0_4
    clear hk_m_1_4
    clear hk_m_2_4
    clear hk_m_3_4
    have K_p_5 := Lib.hid (K_p_4.out.alloc (.cells #[.int .i64 vx, .int .i64 vy] 74))
    have hne_p_v : w.heap.size ≠ w3.heap.size := by have := K_p_4.out.lt; omega
    have hne_v_p : w3.heap.size ≠ w.heap.size := by have := K_p_4.out.lt; omega
    have K_r_5 := Lib.hid (K_r_4.out.alloc (.cells #[.int .i64 vx, .int .i64 vy] 74))
    have hne_r_v : w.heap.size + 1 ≠ w3.heap.size := by have := K_r_4.out.lt; omega
    have hne_v_r : w3.heap.size ≠ w.heap.size + 1 := by have := K_r_4.out.lt; omega
    have K_m_5 := Lib.hid (K_m_4.out.alloc (.cells #[.int .i64 vx, .int .i64 vy] 74))
    have hne_m_v : w2.heap.size ≠ w3.heap.size := by have := K_m_4.out.lt; omega
    have hne_v_m : w3.heap.size ≠ w2.heap.size := by have := K_m_4.out.lt; omega
    have K_v_5 := Lib.hid (HeldL.new w3 [.int .i64 vx, .int .i64 vy] 74)
    have HB_5 := Lib.hid (HB_4.out.alloc HB_4.out.size (.cells #[.int .i64 vx, .int .i64 vy] 74))
    obtain ⟨w4, hw4⟩ : ∃ u, (w3.alloc (.cells #[.int .i64 vx, .int .i64 vy] 74)) = u := ⟨_, rfl⟩
    rw [hw4] at K_p_5 K_r_5 K_m_5 K_v_5 HB_5 ⊢
    clear hw4
    have hk_m_0_5 := K_m_5.out.cell 0 _ rfl
    have hk_m_1_5 := K_m_5.out.cell 1 _ rfl
    have hk_m_2_5 := K_m_5.out.cell 2 _ rfl
    have hk_m_3_5 := K_m_5.out.cell 3 _ rfl
    have hk_v_0_5 := K_v_5.out.cell 0 _ rfl
    have hk_v_1_5 := K_v_5.out.cell 1 _ rfl
    have hk_r_0_5 := K_r_5.out.cell 0 _ rfl
    have hk_r_0_5f := K_r_5.out.froz 0 _ rfl
    have hk_r_1_5 := K_r_5.out.cell 1 _ rfl
    have hk_r_1_5f := K_r_5.out.froz 1 _ rfl
    have hk_r_2_5 := K_r_5.out.cell 2 _ rfl
    have hk_r_2_5f := K_r_5.out.froz 2 _ rfl
    go_region_held3 (fun w' => w'.cell? ⟨w2.heap.size, 0, none⟩ = some (.int .i64 (rX k 1 0)) ∧ w'.cell? ⟨w2.heap.size, 1, none⟩ = some (.int .i64 (rY k 1 0)) ∧ w'.cell? ⟨w2.heap.size, 2, none⟩ = some (.int .i64 (rX k 0 1)) ∧ w'.cell? ⟨w2.heap.size, 3, none⟩ = some (.int .i64 (rY k 0 1)) ∧ w'.cell? ⟨w3.heap.size, 0, none⟩ = some (.int .i64 vx) ∧ w'.cell? ⟨w3.heap.size, 1, none⟩ = some (.int .i64 vy)) (go_keep)
      (first
        | (go_at_call 48
           refine (turnOf_any k _ hk.1 hk.2 (HL.out.below HB_5.out.drew)).mono ?_
           rintro e w5 ⟨rfl, hb⟩
           have K_p_6 := Lib.hid (K_p_5.out.drew.after hb)
           have K_r_6 := Lib.hid (K_r_5.out.drew.after hb)
           have K_m_6 := Lib.hid (K_m_5.out.drew.after hb)
           have K_v_6 := Lib.hid (K_v_5.out.drew.after hb)
           have HB_6 := Lib.hid (HB_5.out.drew.trans (hb.mono HB_5.out.drew.size))
           clear hb
           have hk_m_0_6 := K_m_6.out.cell 0 _ rfl
           have hk_m_1_6 := K_m_6.out.cell 1 _ rfl
           have hk_m_2_6 := K_m_6.out.cell 2 _ rfl
           have hk_m_3_6 := K_m_6.out.cell 3 _ rfl
           have hk_v_0_6 := K_v_6.out.cell 0 _ rfl
           have hk_v_1_6 := K_v_6.out.cell 1 _ rfl
           have hk_r_0_6 := K_r_6.out.cell 0 _ rfl
           have hk_r_0_6f := K_r_6.out.froz 0 _ rfl
           have hk_r_1_6 := K_r_6.out.cell 1 _ rfl
           have hk_r_1_6f := K_r_6.out.froz 1 _ rfl
           have hk_r_2_6 := K_r_6.out.cell 2 _ rfl
           have hk_r_2_6f := K_r_6.out.froz 2 _ rfl))
    go_wp2
    have hr0 := K_r_6.out.cell 0 _ rfl
    have hr1 := K_r_6.out.cell 1 _ rfl
    have hr2 := K_r_6.out.cell 2 _ rfl
    refine bodyPost_ret (v := .agg #[.int .i64 k, .int .i64 (-vx), .int .i64 (-vy)]) (by simp [results, Tryd.results16, go_sem, hr0, hr1, hr2]) rfl ⟨by rw [EK.out], ?_⟩
    exact (((HB_6.out.setCell (p := ⟨w.heap.size + 1, 0, none⟩) (by simp; try omega) _).setCell (p := ⟨w.heap.size + 1, 1, none⟩) (by simp; try omega) _).setCell (p := ⟨w.heap.size + 1, 2, none⟩) (by simp; try omega) _)
  · rw [Bool.not_eq_true] at hp
    rw [hp]
    obtain ⟨e1, e2, e3⟩ := i_no hp
    obtain rfl : 0 = it := e1.symm.trans hit
    obtain rfl : 0 = ix := e2.symm.trans hix
    obtain rfl : 0 = iy := e3.symm.trans hiy
    clear hp e1 e2 e3 hit hix hiy
    have hk_r_0_1 := K_r_1.out.cell 0 _ rfl
    have hk_r_0_1f := K_r_1.out.froz 0 _ rfl
    have hk_r_1_1 := K_r_1.out.cell 1 _ rfl
    have hk_r_1_1f := K_r_1.out.froz 1 _ rfl
    have hk_r_2_1 := K_r_1.out.cell 2 _ rfl
    have hk_r_2_1f := K_r_1.out.froz 2 _ rfl
    go_wp2
    have hr0 := K_r_1.out.cell 0 _ rfl
    have hr1 := K_r_1.out.cell 1 _ rfl
    have hr2 := K_r_1.out.cell 2 _ rfl
    refine bodyPost_ret (v := .agg #[.int .i64 0, .int .i64 0, .int .i64 0]) (by simp [results, Tryd.results16, go_sem, hr0, hr1, hr2]) rfl ⟨rfl, ?_⟩
    exact (((HB_1.out.setCell (p := ⟨w.heap.size + 1, 0, none⟩) (by simp; try omega) _).setCell (p := ⟨w.heap.size + 1, 1, none⟩) (by simp; try omega) _).setCell (p := ⟨w.heap.size + 1, 2, none⟩) (by simp; try omega) _)
set_option maxRecDepth 100000 in
set_option maxHeartbeats 4000000 in
theorem between_impl (t x y u a b : Int) (w : World) (hl : LaidQ w) :
    Calls Tryd.prog 17 #[.agg #[.int .i64 t, .int .i64 x, .int .i64 y], .agg #[.int .i64 u, .int .i64 a, .int .i64 b]] w (IsP (bT t x y u a b) (bX t x y u a b) (bY t x y u a b) w) := by
  have HL := Lib.hid hl
  clear hl
  obtain ⟨bt, hbt⟩ : ∃ z, bT t x y u a b = z := ⟨_, rfl⟩
  have Hbt := Lib.hid hbt
  rw [hbt]
  clear hbt
  obtain ⟨bx, hbx⟩ : ∃ z, bX t x y u a b = z := ⟨_, rfl⟩
  have Hbx := Lib.hid hbx
  rw [hbx]
  clear hbx
  obtain ⟨by_, hby_⟩ : ∃ z, bY t x y u a b = z := ⟨_, rfl⟩
  have Hby_ := Lib.hid hby_
  rw [hby_]
  clear hby_
  obtain ⟨it, hit⟩ : ∃ z, iT t x y = z := ⟨_, rfl⟩
  have Hit := Lib.hid hit
  obtain ⟨ix, hix⟩ : ∃ z, iX t x y = z := ⟨_, rfl⟩
  have Hix := Lib.hid hix
  obtain ⟨iy, hiy⟩ : ∃ z, iY t x y = z := ⟨_, rfl⟩
  have Hiy := Lib.hid hiy
  unfold bT at Hbt
  unfold bX at Hbx
  unfold bY at Hby_
  rw [hit, hix, hiy] at Hbt Hbx Hby_
  clear hit hix hiy
  go_enter Tryd.func17, Tryd.ntmps17
  have HB_0 := Lib.hid ((((Below.refl w.heap.size w).alloc (Nat.le_refl _) (.cells #[.int .i64 t, .int .i64 x, .int .i64 y] 24)).alloc (by simp) (.cells #[.int .i64 u, .int .i64 a, .int .i64 b] 24)).alloc (by simp; omega) (.cells #[.int .i64 0, .int .i64 0, .int .i64 0] 24))
  have K_p_0 := Lib.hid (((HeldL.new_at w (w.heap.size) [.int .i64 t, .int .i64 x, .int .i64 y] 24 (by first | rfl | simp)).alloc (.cells #[.int .i64 u, .int .i64 a, .int .i64 b] 24)).alloc (.cells #[.int .i64 0, .int .i64 0, .int .i64 0] 24))
  have K_q_0 := Lib.hid ((HeldL.new_at (w.alloc (.cells #[.int .i64 t, .int .i64 x, .int .i64 y] 24)) (w.heap.size + 1) [.int .i64 u, .int .i64 a, .int .i64 b] 24 (by first | rfl | simp)).alloc (.cells #[.int .i64 0, .int .i64 0, .int .i64 0] 24))
  have K_r_0 := Lib.hid (HeldL.new_at ((w.alloc (.cells #[.int .i64 t, .int .i64 x, .int .i64 y] 24)).alloc (.cells #[.int .i64 u, .int .i64 a, .int .i64 b] 24)) (w.heap.size + 1 + 1) [.int .i64 0, .int .i64 0, .int .i64 0] 24 (by first | rfl | simp))
  have hne_p_q : w.heap.size ≠ w.heap.size + 1 := by omega
  have hne_p_r : w.heap.size ≠ w.heap.size + 1 + 1 := by omega
  have hne_q_p : w.heap.size + 1 ≠ w.heap.size := by omega
  have hne_q_r : w.heap.size + 1 ≠ w.heap.size + 1 + 1 := by omega
  have hne_r_p : w.heap.size + 1 + 1 ≠ w.heap.size := by omega
  have hne_r_q : w.heap.size + 1 + 1 ≠ w.heap.size + 1 := by omega
  have hk_p_0_0 := K_p_0.out.cell 0 _ rfl
  have hk_p_1_0 := K_p_0.out.cell 1 _ rfl
  have hk_p_2_0 := K_p_0.out.cell 2 _ rfl
  have hk_q_0_0 := K_q_0.out.cell 0 _ rfl
  have hk_q_1_0 := K_q_0.out.cell 1 _ rfl
  have hk_q_2_0 := K_q_0.out.cell 2 _ rfl
  have hk_r_0_0 := K_r_0.out.cell 0 _ rfl
  have hk_r_0_0f := K_r_0.out.froz 0 _ rfl
  have hk_r_1_0 := K_r_0.out.cell 1 _ rfl
  have hk_r_1_0f := K_r_0.out.froz 1 _ rfl
  have hk_r_2_0 := K_r_0.out.cell 2 _ rfl
  have hk_r_2_0f := K_r_0.out.froz 2 _ rfl
  go_wp2
  go_region_held3 (fun w' => w'.cell? ⟨w.heap.size, 0, none⟩ = some (.int .i64 t) ∧ w'.cell? ⟨w.heap.size, 1, none⟩ = some (.int .i64 x) ∧ w'.cell? ⟨w.heap.size, 2, none⟩ = some (.int .i64 y) ∧ w'.cell? ⟨w.heap.size + 1, 0, none⟩ = some (.int .i64 u) ∧ w'.cell? ⟨w.heap.size + 1, 1, none⟩ = some (.int .i64 a) ∧ w'.cell? ⟨w.heap.size + 1, 2, none⟩ = some (.int .i64 b)) (go_keep)
    (first
      | (go_at_call 16
         refine (inverse_impl t x y _ (HL.out.below HB_0.out.drew)).mono ?_
         rintro e w1 ⟨rfl, hb⟩
         rw [Hit.out, Hix.out, Hiy.out]
         have K_p_1 := Lib.hid (K_p_0.out.drew.after hb)
         have K_q_1 := Lib.hid (K_q_0.out.drew.after hb)
         have K_r_1 := Lib.hid (K_r_0.out.drew.after hb)
         have HB_1 := Lib.hid (HB_0.out.drew.trans (hb.mono HB_0.out.drew.size))
         clear hb
         have hk_p_0_1 := K_p_1.out.cell 0 _ rfl
         have hk_p_1_1 := K_p_1.out.cell 1 _ rfl
         have hk_p_2_1 := K_p_1.out.cell 2 _ rfl
         have hk_q_0_1 := K_q_1.out.cell 0 _ rfl
         have hk_q_1_1 := K_q_1.out.cell 1 _ rfl
         have hk_q_2_1 := K_q_1.out.cell 2 _ rfl
         have hk_r_0_1 := K_r_1.out.cell 0 _ rfl
         have hk_r_0_1f := K_r_1.out.froz 0 _ rfl
         have hk_r_1_1 := K_r_1.out.cell 1 _ rfl
         have hk_r_1_1f := K_r_1.out.froz 1 _ rfl
         have hk_r_2_1 := K_r_1.out.cell 2 _ rfl
         have hk_r_2_1f := K_r_1.out.froz 2 _ rfl)
      | (go_at_call 15
         refine (compose_impl it ix iy u a b _ (HL.out.below HB_1.out)).mono ?_
         rintro e w2 ⟨rfl, hb⟩
         rw [Hbt.out, Hbx.out, Hby_.out]
         have K_p_2 := Lib.hid (K_p_1.out.after hb)
         have K_q_2 := Lib.hid (K_q_1.out.after hb)
         have K_r_2 := Lib.hid (K_r_1.out.after hb)
         have HB_2 := Lib.hid (HB_1.out.trans (hb.mono HB_1.out.size))
         clear hb
         have hk_p_0_2 := K_p_2.out.cell 0 _ rfl
         have hk_p_1_2 := K_p_2.out.cell 1 _ rfl
         have hk_p_2_2 := K_p_2.out.cell 2 _ rfl
         have hk_q_0_2 := K_q_2.out.cell 0 _ rfl
         have hk_q_1_2 := K_q_2.out.cell 1 _ rfl
         have hk_q_2_2 := K_q_2.out.cell 2 _ rfl
         have hk_r_0_2 := K_r_2.out.cell 0 _ rfl
         have hk_r_0_2f := K_r_2.out.froz 0 _ rfl
         have hk_r_1_2 := K_r_2.out.cell 1 _ rfl
         have hk_r_1_2f := K_r_2.out.froz 1 _ rfl
         have hk_r_2_2 := K_r_2.out.cell 2 _ rfl
         have hk_r_2_2f := K_r_2.out.froz 2 _ rfl))
  go_wp2
  have hr0 := K_r_2.out.cell 0 _ rfl
  have hr1 := K_r_2.out.cell 1 _ rfl
  have hr2 := K_r_2.out.cell 2 _ rfl
  refine bodyPost_ret (v := .agg #[.int .i64 bt, .int .i64 bx, .int .i64 by_]) (by simp [results, Tryd.results17, go_sem, hr0, hr1, hr2]) rfl ⟨rfl, ?_⟩
  exact (((HB_2.out.setCell (p := ⟨w.heap.size + 1 + 1, 0, none⟩) (by simp; try omega) _).setCell (p := ⟨w.heap.size + 1 + 1, 1, none⟩) (by simp; try omega) _).setCell (p := ⟨w.heap.size + 1 + 1, 2, none⟩) (by simp; try omega) _)
end Go.Proofs.YtdilgjakodimbaaDoor
