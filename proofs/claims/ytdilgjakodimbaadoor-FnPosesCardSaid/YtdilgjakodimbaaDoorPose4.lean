/- Poses: composition by the program. Conditions: none. -/
import Derived.Test.YtdilgjakodimbaaDoorPose3
import Derived.Deep.DeepCutAuto
namespace Go.Proofs.YtdilgjakodimbaaDoor
open Go.RowKit Po
set_option linter.unusedVariables false

namespace Po
/-- The composition of two poses: whether there is one, and its parts. -/
def cOk (t x y u a b : Int) : Bool := ok t x y && ok u a b && ok ((t + u) % 4) (x + rX t a b) (y + rY t a b)
def cT (t x y u a b : Int) : Int := if cOk t x y u a b = true then (t + u) % 4 else 0
def cX (t x y u a b : Int) : Int := if cOk t x y u a b = true then x + rX t a b else 0
def cY (t x y u a b : Int) : Int := if cOk t x y u a b = true then y + rY t a b else 0
theorem c_no {t x y u a b : Int} (h : cOk t x y u a b = false) : cT t x y u a b = 0 ∧ cX t x y u a b = 0 ∧ cY t x y u a b = 0 := by simp [cT, cX, cY, h]
theorem c_yes {t x y u a b : Int} (h : cOk t x y u a b = true) : cT t x y u a b = (t + u) % 4 ∧ cX t x y u a b = x + rX t a b ∧ cY t x y u a b = y + rY t a b := by simp [cT, cX, cY, h]
/-- What a function leaves that returns a pose. -/
def IsP (t x y : Int) (w : World) (e : Ending) (w' : World) : Prop := e = .returned (.agg #[.int .i64 t, .int .i64 x, .int .i64 y]) ∧ Below w.heap.size w w'
/-- A pose and whether there is one. -/
def IsPB (t x y : Int) (k : Bool) (w : World) (e : Ending) (w' : World) : Prop := e = .returned (.tuple #[.agg #[.int .i64 t, .int .i64 x, .int .i64 y], .bool k]) ∧ Below w.heap.size w w'
end Po
theorem LaidQ.read {w : World} (h : LaidQ w) {t : Int} (h0 : 0 ≤ t) (h1 : t ≤ 3) : w.cell? ⟨0, t.toNat * 4, none⟩ = some (.int .i64 (rX t 1 0)) ∧ w.cell? ⟨0, t.toNat * 4 + 1, none⟩ = some (.int .i64 (rY t 1 0)) ∧ w.cell? ⟨0, t.toNat * 4 + 2, none⟩ = some (.int .i64 (rX t 0 1)) ∧ w.cell? ⟨0, t.toNat * 4 + 3, none⟩ = some (.int .i64 (rY t 0 1)) := by
  rcases four h0 h1 with rfl | rfl | rfl | rfl
  · exact ⟨h.c0, h.c1, h.c2, h.c3⟩
  · exact ⟨h.c4, h.c5, h.c6, h.c7⟩
  · exact ⟨h.c8, h.c9, h.c10, h.c11⟩
  · exact ⟨h.c12, h.c13, h.c14, h.c15⟩
theorem times_turn (t u : Int) (w : World) (h0 : 0 ≤ t) (h1 : t ≤ 3) (k0 : 0 ≤ u) (k1 : u ≤ 3) : Calls Tryd.prog 76 #[.agg #[.int .i64 (rX t 1 0), .int .i64 (rY t 1 0), .int .i64 (rX t 0 1), .int .i64 (rY t 0 1)], .agg #[.int .i64 (rX u 1 0), .int .i64 (rY u 1 0), .int .i64 (rX u 0 1), .int .i64 (rY u 0 1)]] w fun e w' => e = .returned (.agg #[.int .i64 (rX ((t + u) % 4) 1 0), .int .i64 (rY ((t + u) % 4) 1 0), .int .i64 (rX ((t + u) % 4) 0 1), .int .i64 (rY ((t + u) % 4) 0 1)]) ∧ Below w.heap.size w w' := by
  obtain ⟨a, b, c, d⟩ := unit_bd u
  have h := times_any t (rX u 1 0) (rY u 1 0) (rX u 0 1) (rY u 0 1) w h0 h1 (by omega) (by omega) (by omega) (by omega)
  obtain ⟨e1, e2, e3, e4⟩ := turn_mul h0 h1 k0 k1
  rw [e1, e2, e3, e4] at h
  exact h
set_option maxRecDepth 100000 in
set_option maxHeartbeats 4000000 in
theorem composed_any (t x y u a b : Int) (w : World) (hl : LaidQ w) :
    Calls Tryd.prog 45 #[.agg #[.int .i64 t, .int .i64 x, .int .i64 y], .agg #[.int .i64 u, .int .i64 a, .int .i64 b]] w (IsPB (cT t x y u a b) (cX t x y u a b) (cY t x y u a b) (cOk t x y u a b) w) := by
  have HL := Lib.hid hl
  clear hl
  go_enter Tryd.func45, Tryd.ntmps45
  have HB_0 := Lib.hid ((((Below.refl w.heap.size w).alloc (Nat.le_refl _) (.cells #[.int .i64 t, .int .i64 x, .int .i64 y] 24)).alloc (by simp) (.cells #[.int .i64 u, .int .i64 a, .int .i64 b] 24)).alloc (by simp; omega) (.cells #[.int .i64 0, .int .i64 0, .int .i64 0] 24))
  have K_p_0 := Lib.hid (((HeldL.new_at w (w.heap.size) [.int .i64 t, .int .i64 x, .int .i64 y] 24 (by first | rfl | simp)).alloc (.cells #[.int .i64 u, .int .i64 a, .int .i64 b] 24)).alloc (.cells #[.int .i64 0, .int .i64 0, .int .i64 0] 24))
  have K_q_0 := Lib.hid ((HeldL.new_at (w.alloc (.cells #[.int .i64 t, .int .i64 x, .int .i64 y] 24)) (w.heap.size + 1) [.int .i64 u, .int .i64 a, .int .i64 b] 24 (by first | rfl | simp)).alloc (.cells #[.int .i64 0, .int .i64 0, .int .i64 0] 24))
  have K_r_0 := Lib.hid (HeldL.new_at ((w.alloc (.cells #[.int .i64 t, .int .i64 x, .int .i64 y] 24)).alloc (.cells #[.int .i64 u, .int .i64 a, .int .i64 b] 24)) (w.heap.size + 1 + 1) [.int .i64 0, .int .i64 0, .int .i64 0] 24 (by first | rfl | simp))
  have hne_p_q : w.heap.size ≠ w.heap.size + 1 := by omega
  have hne_p_r : w.heap.size ≠ w.heap.size + 1 + 1 := by omega
  have hne_q_p : w.heap.size + 1 ≠ w.heap.size := by omega
  have hne_q_r : w.heap.size + 1 ≠ w.heap.size + 1 + 1 := by omega
  have hne_r_p : w.heap.size + 1 + 1 ≠ w.heap.size := by omega
  have hne_r_q : w.heap.size + 1 + 1 ≠ w.heap.size + 1 := by omega
  go_wp2_with fail
  refine (validP_impl t x y _).mono ?_
  rintro e w1 ⟨rfl, hb⟩
  have K_p_1 := Lib.hid (K_p_0.out.after hb)
  have K_q_1 := Lib.hid (K_q_0.out.after hb)
  have K_r_1 := Lib.hid (K_r_0.out.after hb)
  have HB_1 := Lib.hid (HB_0.out.trans (hb.mono HB_0.out.size))
  clear hb
  by_cases hp : ok t x y = true
  · rw [hp]
    have hk_q_0_1 := K_q_1.out.cell 0 _ rfl
    have hk_q_1_1 := K_q_1.out.cell 1 _ rfl
    have hk_q_2_1 := K_q_1.out.cell 2 _ rfl
    go_wp2_with fail
    refine (validP_impl u a b _).mono ?_
    rintro e w2 ⟨rfl, hb⟩
    have K_p_2 := Lib.hid (K_p_1.out.after hb)
    have K_q_2 := Lib.hid (K_q_1.out.after hb)
    have K_r_2 := Lib.hid (K_r_1.out.after hb)
    have HB_2 := Lib.hid (HB_1.out.trans (hb.mono HB_1.out.size))
    clear hb
    by_cases hq : ok u a b = true
    · rw [hq]
      obtain ⟨⟨ht0, ht1⟩, hx, hy⟩ := ok_iff.mp hp
      obtain ⟨⟨hu0, hu1⟩, ha, hb⟩ := ok_iff.mp hq
      have HP := Lib.hid hp
      have HQ := Lib.hid hq
      clear hp hq
      have HA := Lib.hid ha
      have HBB := Lib.hid hb
      have hvx := rX_bd (t := t) ha hb
      have hvy := rY_bd (t := t) ha hb
      clear hb ha
      have hmt : 0 ≤ (t + u) % 4 ∧ (t + u) % 4 ≤ 3 := by omega
      obtain ⟨vx, ex⟩ : ∃ z, rX t a b = z := ⟨_, rfl⟩
      obtain ⟨vy, ey⟩ : ∃ z, rY t a b = z := ⟨_, rfl⟩
      obtain ⟨k, ek⟩ : ∃ z, (t + u) % 4 = z := ⟨_, rfl⟩
      rw [ex] at hvx
      rw [ey] at hvy
      rw [ek] at hmt
      have EX := Lib.hid ex
      have EY := Lib.hid ey
      have EK := Lib.hid ek
      clear ex ey ek
      have hwx : IntKind.i64.wrap (x + vx) = x + vx := IntWalk.i64_in _ (by omega)
      have hwy : IntKind.i64.wrap (y + vy) = y + vy := IntWalk.i64_in _ (by omega)
      have hu4 : u < 4 := by omega
      clear hk_q_0_1
      clear hk_q_1_1
      clear hk_q_2_1
      have hk_p_0_2 := K_p_2.out.cell 0 _ rfl
      have hk_p_1_2 := K_p_2.out.cell 1 _ rfl
      have hk_p_2_2 := K_p_2.out.cell 2 _ rfl
      have hk_q_0_2 := K_q_2.out.cell 0 _ rfl
      have hk_q_1_2 := K_q_2.out.cell 1 _ rfl
      have hk_q_2_2 := K_q_2.out.cell 2 _ rfl
      obtain ⟨g0, g1, g2, g3⟩ := (HL.out.below HB_2.out).read ht0 ht1
      have hnq : w.heap.size + 1 < w2.heap.size := K_q_2.out.lt
      go_wp2_with fail
      clear g0 g1 g2 g3 hnq
      clear hk_p_0_2
      clear hk_p_1_2
      clear hk_p_2_2
      clear hk_q_0_2
      clear hk_q_1_2
      clear hk_q_2_2
      have K_p_3 := Lib.hid (K_p_2.out.alloc (.cells #[.int .i64 (rX t 1 0), .int .i64 (rY t 1 0), .int .i64 (rX t 0 1), .int .i64 (rY t 0 1)] 76))
      have hne_p_m : w.heap.size ≠ w2.heap.size := by have := K_p_2.out.lt; omega
      have hne_m_p : w2.heap.size ≠ w.heap.size := by have := K_p_2.out.lt; omega
      have K_q_3 := Lib.hid (K_q_2.out.alloc (.cells #[.int .i64 (rX t 1 0), .int .i64 (rY t 1 0), .int .i64 (rX t 0 1), .int .i64 (rY t 0 1)] 76))
      have hne_q_m : w.heap.size + 1 ≠ w2.heap.size := by have := K_q_2.out.lt; omega
      have hne_m_q : w2.heap.size ≠ w.heap.size + 1 := by have := K_q_2.out.lt; omega
      have K_r_3 := Lib.hid (K_r_2.out.alloc (.cells #[.int .i64 (rX t 1 0), .int .i64 (rY t 1 0), .int .i64 (rX t 0 1), .int .i64 (rY t 0 1)] 76))
      have hne_r_m : w.heap.size + 1 + 1 ≠ w2.heap.size := by have := K_r_2.out.lt; omega
      have hne_m_r : w2.heap.size ≠ w.heap.size + 1 + 1 := by have := K_r_2.out.lt; omega
      have K_m_3 := Lib.hid (HeldL.new w2 [.int .i64 (rX t 1 0), .int .i64 (rY t 1 0), .int .i64 (rX t 0 1), .int .i64 (rY t 0 1)] 76)
      have HB_3 := Lib.hid (HB_2.out.alloc HB_2.out.size (.cells #[.int .i64 (rX t 1 0), .int .i64 (rY t 1 0), .int .i64 (rX t 0 1), .int .i64 (rY t 0 1)] 76))
      refine (rotate_any t a b _ ht0 ht1 HA.out HBB.out).mono ?_
      rintro e w3 ⟨rfl, hb⟩
      rw [EX.out, EY.out]
      have K_p_4 := Lib.hid (K_p_3.out.after hb)
      have K_q_4 := Lib.hid (K_q_3.out.after hb)
      have K_r_4 := Lib.hid (K_r_3.out.after hb)
      have K_m_4 := Lib.hid (K_m_3.out.after hb)
      have HB_4 := Lib.hid (HB_3.out.trans (hb.mono HB_3.out.size))
      clear hb
      go_wp2_with fail
      have K_p_5 := Lib.hid (K_p_4.out.alloc (.cells #[.int .i64 vx, .int .i64 vy] 74))
      have hne_p_v : w.heap.size ≠ w3.heap.size := by have := K_p_4.out.lt; omega
      have hne_v_p : w3.heap.size ≠ w.heap.size := by have := K_p_4.out.lt; omega
      have K_q_5 := Lib.hid (K_q_4.out.alloc (.cells #[.int .i64 vx, .int .i64 vy] 74))
      have hne_q_v : w.heap.size + 1 ≠ w3.heap.size := by have := K_q_4.out.lt; omega
      have hne_v_q : w3.heap.size ≠ w.heap.size + 1 := by have := K_q_4.out.lt; omega
      have K_r_5 := Lib.hid (K_r_4.out.alloc (.cells #[.int .i64 vx, .int .i64 vy] 74))
      have hne_r_v : w.heap.size + 1 + 1 ≠ w3.heap.size := by have := K_r_4.out.lt; omega
      have hne_v_r : w3.heap.size ≠ w.heap.size + 1 + 1 := by have := K_r_4.out.lt; omega
      have K_m_5 := Lib.hid (K_m_4.out.alloc (.cells #[.int .i64 vx, .int .i64 vy] 74))
      have hne_m_v : w2.heap.size ≠ w3.heap.size := by have := K_m_4.out.lt; omega
      have hne_v_m : w3.heap.size ≠ w2.heap.size := by have := K_m_4.out.lt; omega
      have K_v_5 := Lib.hid (HeldL.new w3 [.int .i64 vx, .int .i64 vy] 74)
      have HB_5 := Lib.hid (HB_4.out.alloc HB_4.out.size (.cells #[.int .i64 vx, .int .i64 vy] 74))
      obtain ⟨w4, hw4⟩ : ∃ u, (w3.alloc (.cells #[.int .i64 vx, .int .i64 vy] 74)) = u := ⟨_, rfl⟩
      rw [hw4] at K_p_5 K_q_5 K_r_5 K_m_5 K_v_5 HB_5 ⊢
      clear hw4
      have hk_m_0_5 := K_m_5.out.cell 0 _ rfl
      have hk_m_1_5 := K_m_5.out.cell 1 _ rfl
      have hk_m_2_5 := K_m_5.out.cell 2 _ rfl
      have hk_m_3_5 := K_m_5.out.cell 3 _ rfl
      have hk_q_0_5 := K_q_5.out.cell 0 _ rfl
      have hk_q_1_5 := K_q_5.out.cell 1 _ rfl
      have hk_q_2_5 := K_q_5.out.cell 2 _ rfl
      have hk_p_0_5 := K_p_5.out.cell 0 _ rfl
      have hk_p_1_5 := K_p_5.out.cell 1 _ rfl
      have hk_p_2_5 := K_p_5.out.cell 2 _ rfl
      have hk_v_0_5 := K_v_5.out.cell 0 _ rfl
      have hk_v_1_5 := K_v_5.out.cell 1 _ rfl
      have hx0_0 := ((HL.out.below HB_5.out).read hu0 hu1).1
      have hx1_0 := ((HL.out.below HB_5.out).read hu0 hu1).2.1
      have hx2_0 := ((HL.out.below HB_5.out).read hu0 hu1).2.2.1
      have hx3_0 := ((HL.out.below HB_5.out).read hu0 hu1).2.2.2
      go_upto_region 5 with fail
      go_cut [8] (fun ptr wx => ∃ blk : Nat, ptr = .pointer (some ⟨blk, 0, none⟩) ∧ w.heap.size ≤ blk ∧ HeldL wx blk [.int .i64 k, .int .i64 (x + vx), .int .i64 (y + vy)] ∧ HeldL wx (w.heap.size) [.int .i64 t, .int .i64 x, .int .i64 y] ∧ HeldL wx (w.heap.size + 1) [.int .i64 u, .int .i64 a, .int .i64 b] ∧ HeldL wx (w.heap.size + 1 + 1) [.int .i64 0, .int .i64 0, .int .i64 0] ∧ HeldL wx (w2.heap.size) [.int .i64 (rX t 1 0), .int .i64 (rY t 1 0), .int .i64 (rX t 0 1), .int .i64 (rY t 0 1)] ∧ HeldL wx (w3.heap.size) [.int .i64 vx, .int .i64 vy] ∧ Below w.heap.size w wx)
      case first =>
        go_region_held3 (fun w' => w'.cell? ⟨w2.heap.size, 0, none⟩ = some (.int .i64 (rX t 1 0)) ∧ w'.cell? ⟨w2.heap.size, 1, none⟩ = some (.int .i64 (rY t 1 0)) ∧ w'.cell? ⟨w2.heap.size, 2, none⟩ = some (.int .i64 (rX t 0 1)) ∧ w'.cell? ⟨w2.heap.size, 3, none⟩ = some (.int .i64 (rY t 0 1)) ∧ w'.cell? ⟨w.heap.size + 1, 0, none⟩ = some (.int .i64 u) ∧ w'.cell? ⟨w.heap.size + 1, 1, none⟩ = some (.int .i64 a) ∧ w'.cell? ⟨w.heap.size + 1, 2, none⟩ = some (.int .i64 b) ∧ w'.cell? ⟨w.heap.size, 0, none⟩ = some (.int .i64 t) ∧ w'.cell? ⟨w.heap.size, 1, none⟩ = some (.int .i64 x) ∧ w'.cell? ⟨w.heap.size, 2, none⟩ = some (.int .i64 y) ∧ w'.cell? ⟨w3.heap.size, 0, none⟩ = some (.int .i64 vx) ∧ w'.cell? ⟨w3.heap.size, 1, none⟩ = some (.int .i64 vy) ∧ w'.cell? ⟨0, u.toNat * 4, none⟩ = some (.int .i64 (rX u 1 0)) ∧ w'.cell? ⟨0, u.toNat * 4 + 1, none⟩ = some (.int .i64 (rY u 1 0)) ∧ w'.cell? ⟨0, u.toNat * 4 + 2, none⟩ = some (.int .i64 (rX u 0 1)) ∧ w'.cell? ⟨0, u.toNat * 4 + 3, none⟩ = some (.int .i64 (rY u 0 1))) (go_keep)
          (first
            | (go_at_call 76
               refine (times_turn t u _ ht0 ht1 hu0 hu1).mono ?_
               rintro e u1 ⟨rfl, hb⟩
               rw [EK.out]
               first | (have KN1 := Lib.hid ((HeldL.new w4 [.int .i64 0, .int .i64 0, .int .i64 0] 24).drew.after hb); have HLN1 := Lib.hid (HeldL.new w4 [.int .i64 0, .int .i64 0, .int .i64 0] 24).lt; have HGN := Lib.hid HB_5.out.size; have NE_p := Lib.hid (Nat.ne_of_lt K_p_5.out.lt); have NE_q := Lib.hid (Nat.ne_of_lt K_q_5.out.lt); have NE_r := Lib.hid (Nat.ne_of_lt K_r_5.out.lt); have NE_m := Lib.hid (Nat.ne_of_lt K_m_5.out.lt); have NE_v := Lib.hid (Nat.ne_of_lt K_v_5.out.lt); have NE_G := Lib.hid (Nat.ne_of_lt (Nat.lt_of_lt_of_le HL.out.lt HB_5.out.size))) | skip
               have T9 : HeldL u1 (w.heap.size) [.int .i64 t, .int .i64 x, .int .i64 y] := by first | exact K_p_5.out.drew.after hb | exact (K_p_5.out.alloc (.cells #[.int .i64 0, .int .i64 0, .int .i64 0] 24)).drew.after hb
               have KK_p_1 := Lib.hid T9
               clear T9
               have T9 : HeldL u1 (w.heap.size + 1) [.int .i64 u, .int .i64 a, .int .i64 b] := by first | exact K_q_5.out.drew.after hb | exact (K_q_5.out.alloc (.cells #[.int .i64 0, .int .i64 0, .int .i64 0] 24)).drew.after hb
               have KK_q_1 := Lib.hid T9
               clear T9
               have T9 : HeldL u1 (w.heap.size + 1 + 1) [.int .i64 0, .int .i64 0, .int .i64 0] := by first | exact K_r_5.out.drew.after hb | exact (K_r_5.out.alloc (.cells #[.int .i64 0, .int .i64 0, .int .i64 0] 24)).drew.after hb
               have KK_r_1 := Lib.hid T9
               clear T9
               have T9 : HeldL u1 (w2.heap.size) [.int .i64 (rX t 1 0), .int .i64 (rY t 1 0), .int .i64 (rX t 0 1), .int .i64 (rY t 0 1)] := by first | exact K_m_5.out.drew.after hb | exact (K_m_5.out.alloc (.cells #[.int .i64 0, .int .i64 0, .int .i64 0] 24)).drew.after hb
               have KK_m_1 := Lib.hid T9
               clear T9
               have T9 : HeldL u1 (w3.heap.size) [.int .i64 vx, .int .i64 vy] := by first | exact K_v_5.out.drew.after hb | exact (K_v_5.out.alloc (.cells #[.int .i64 0, .int .i64 0, .int .i64 0] 24)).drew.after hb
               have KK_v_1 := Lib.hid T9
               clear T9
               have T9 : Below w.heap.size w u1 := by first | exact (HB_5.out.drew).trans (hb.mono (HB_5.out.drew).size) | exact ((HB_5.out.alloc HB_5.out.size (.cells #[.int .i64 0, .int .i64 0, .int .i64 0] 24)).drew).trans (hb.mono ((HB_5.out.alloc HB_5.out.size (.cells #[.int .i64 0, .int .i64 0, .int .i64 0] 24)).drew).size)
               have HHB_1 := Lib.hid T9
               clear T9 hb
               have hk_m_0_1 := KK_m_1.out.cell 0 _ rfl
               have hk_m_1_1 := KK_m_1.out.cell 1 _ rfl
               have hk_m_2_1 := KK_m_1.out.cell 2 _ rfl
               have hk_m_3_1 := KK_m_1.out.cell 3 _ rfl
               have hk_q_0_1 := KK_q_1.out.cell 0 _ rfl
               have hk_q_1_1 := KK_q_1.out.cell 1 _ rfl
               have hk_q_2_1 := KK_q_1.out.cell 2 _ rfl
               have hk_p_0_1 := KK_p_1.out.cell 0 _ rfl
               have hk_p_1_1 := KK_p_1.out.cell 1 _ rfl
               have hk_p_2_1 := KK_p_1.out.cell 2 _ rfl
               have hk_v_0_1 := KK_v_1.out.cell 0 _ rfl
               have hk_v_1_1 := KK_v_1.out.cell 1 _ rfl
               have hx0_1 := ((HL.out.below HHB_1.out).read hu0 hu1).1
               have hx1_1 := ((HL.out.below HHB_1.out).read hu0 hu1).2.1
               have hx2_1 := ((HL.out.below HHB_1.out).read hu0 hu1).2.2.1
               have hx3_1 := ((HL.out.below HHB_1.out).read hu0 hu1).2.2.2)
            | (go_at_call 48
               refine (turnOf_any k _ hmt.1 hmt.2 ?_).mono ?_
               first | exact HL.out.below HHB_1.out | exact HL.out.below (HHB_1.out.alloc HHB_1.out.size (.cells #[.int .i64 0, .int .i64 0, .int .i64 0] 24))
               rintro e u2 ⟨rfl, hb⟩
               first | (have KN2 := Lib.hid (KN1.out.after hb); have HLN2 := Lib.hid KN1.out.lt) | (have KN2 := Lib.hid ((HeldL.new u1 [.int .i64 0, .int .i64 0, .int .i64 0] 24).after hb); have HLN2 := Lib.hid (HeldL.new u1 [.int .i64 0, .int .i64 0, .int .i64 0] 24).lt; have HGN := Lib.hid HHB_1.out.size; have NE_p := Lib.hid (Nat.ne_of_lt KK_p_1.out.lt); have NE_q := Lib.hid (Nat.ne_of_lt KK_q_1.out.lt); have NE_r := Lib.hid (Nat.ne_of_lt KK_r_1.out.lt); have NE_m := Lib.hid (Nat.ne_of_lt KK_m_1.out.lt); have NE_v := Lib.hid (Nat.ne_of_lt KK_v_1.out.lt); have NE_G := Lib.hid (Nat.ne_of_lt (Nat.lt_of_lt_of_le HL.out.lt HHB_1.out.size))) | skip
               have T9 : HeldL u2 (w.heap.size) [.int .i64 t, .int .i64 x, .int .i64 y] := by first | exact KK_p_1.out.after hb | exact (KK_p_1.out.alloc (.cells #[.int .i64 0, .int .i64 0, .int .i64 0] 24)).after hb
               have KK_p_2 := Lib.hid T9
               clear T9
               have T9 : HeldL u2 (w.heap.size + 1) [.int .i64 u, .int .i64 a, .int .i64 b] := by first | exact KK_q_1.out.after hb | exact (KK_q_1.out.alloc (.cells #[.int .i64 0, .int .i64 0, .int .i64 0] 24)).after hb
               have KK_q_2 := Lib.hid T9
               clear T9
               have T9 : HeldL u2 (w.heap.size + 1 + 1) [.int .i64 0, .int .i64 0, .int .i64 0] := by first | exact KK_r_1.out.after hb | exact (KK_r_1.out.alloc (.cells #[.int .i64 0, .int .i64 0, .int .i64 0] 24)).after hb
               have KK_r_2 := Lib.hid T9
               clear T9
               have T9 : HeldL u2 (w2.heap.size) [.int .i64 (rX t 1 0), .int .i64 (rY t 1 0), .int .i64 (rX t 0 1), .int .i64 (rY t 0 1)] := by first | exact KK_m_1.out.after hb | exact (KK_m_1.out.alloc (.cells #[.int .i64 0, .int .i64 0, .int .i64 0] 24)).after hb
               have KK_m_2 := Lib.hid T9
               clear T9
               have T9 : HeldL u2 (w3.heap.size) [.int .i64 vx, .int .i64 vy] := by first | exact KK_v_1.out.after hb | exact (KK_v_1.out.alloc (.cells #[.int .i64 0, .int .i64 0, .int .i64 0] 24)).after hb
               have KK_v_2 := Lib.hid T9
               clear T9
               have T9 : Below w.heap.size w u2 := by first | exact (HHB_1.out).trans (hb.mono (HHB_1.out).size) | exact ((HHB_1.out.alloc HHB_1.out.size (.cells #[.int .i64 0, .int .i64 0, .int .i64 0] 24))).trans (hb.mono ((HHB_1.out.alloc HHB_1.out.size (.cells #[.int .i64 0, .int .i64 0, .int .i64 0] 24))).size)
               have HHB_2 := Lib.hid T9
               clear T9 hb
               have hk_m_0_2 := KK_m_2.out.cell 0 _ rfl
               have hk_m_1_2 := KK_m_2.out.cell 1 _ rfl
               have hk_m_2_2 := KK_m_2.out.cell 2 _ rfl
               have hk_m_3_2 := KK_m_2.out.cell 3 _ rfl
               have hk_q_0_2 := KK_q_2.out.cell 0 _ rfl
               have hk_q_1_2 := KK_q_2.out.cell 1 _ rfl
               have hk_q_2_2 := KK_q_2.out.cell 2 _ rfl
               have hk_p_0_2 := KK_p_2.out.cell 0 _ rfl
               have hk_p_1_2 := KK_p_2.out.cell 1 _ rfl
               have hk_p_2_2 := KK_p_2.out.cell 2 _ rfl
               have hk_v_0_2 := KK_v_2.out.cell 0 _ rfl
               have hk_v_1_2 := KK_v_2.out.cell 1 _ rfl
               have hx0_2 := ((HL.out.below HHB_2.out).read hu0 hu1).1
               have hx1_2 := ((HL.out.below HHB_2.out).read hu0 hu1).2.1
               have hx2_2 := ((HL.out.below HHB_2.out).read hu0 hu1).2.2.1
               have hx3_2 := ((HL.out.below HHB_2.out).read hu0 hu1).2.2.2
               try have hkn0 := KN2.out.cell 0 _ rfl
               try have hkf0 := KN2.out.froz 0 _ rfl
               try have hkn1 := KN2.out.cell 1 _ rfl
               try have hkf1 := KN2.out.froz 1 _ rfl
               try have hkn2 := KN2.out.cell 2 _ rfl
               try have hkf2 := KN2.out.froz 2 _ rfl
               try have hne_m := NE_m.out
               try have hnf_m := NE_m.out.symm
               try have hne_q := NE_q.out
               try have hnf_q := NE_q.out.symm
               try have hne_p := NE_p.out
               try have hnf_p := NE_p.out.symm
               try have hne_v := NE_v.out
               try have hnf_v := NE_v.out.symm
               try have hne_G := NE_G.out
               try have hnf_G := NE_G.out.symm))
        all_goals go_wp2_with fail
        all_goals go_meet
        all_goals refine ⟨_, rfl, ?_, ?_, ?_, ?_, ?_, ?_, ?_, ?_⟩
        all_goals first
          | exact HeldL.new u2 _ _
          | exact (((KN2.out.set 0 _ _ rfl).set 1 _ _ rfl).set 2 _ _ rfl)
          | exact HHB_2.out.size
          | exact HGN.out
          | exact KK_p_2.out.alloc _
          | exact (((KK_p_2.out.setOther NE_p.out _).setOther NE_p.out _).setOther NE_p.out _)
          | exact KK_q_2.out.alloc _
          | exact (((KK_q_2.out.setOther NE_q.out _).setOther NE_q.out _).setOther NE_q.out _)
          | exact KK_r_2.out.alloc _
          | exact (((KK_r_2.out.setOther NE_r.out _).setOther NE_r.out _).setOther NE_r.out _)
          | exact KK_m_2.out.alloc _
          | exact (((KK_m_2.out.setOther NE_m.out _).setOther NE_m.out _).setOther NE_m.out _)
          | exact KK_v_2.out.alloc _
          | exact (((KK_v_2.out.setOther NE_v.out _).setOther NE_v.out _).setOther NE_v.out _)
          | exact HHB_2.out.alloc HHB_2.out.size _
          | exact (((HHB_2.out.setCell HGN.out _).setCell HGN.out _).setCell HGN.out _)
      clear hk_m_0_5
      clear hk_m_1_5
      clear hk_m_2_5
      clear hk_m_3_5
      clear hk_q_0_5
      clear hk_q_1_5
      clear hk_q_2_5
      clear hk_p_0_5
      clear hk_p_1_5
      clear hk_p_2_5
      clear hk_v_0_5
      clear hk_v_1_5
      clear hx0_0 hx1_0 hx2_0 hx3_0
      clear K_p_5
      clear K_q_5
      clear K_r_5
      clear K_m_5
      clear K_v_5
      clear HB_5
      obtain ⟨b_c, rfl, hge_c, hkn, hq_p, hq_q, hq_r, hq_m, hq_v, hbw⟩ := hcut
      have K_p_6 := Lib.hid hq_p
      clear hq_p
      have K_q_6 := Lib.hid hq_q
      clear hq_q
      have K_r_6 := Lib.hid hq_r
      clear hq_r
      have K_m_6 := Lib.hid hq_m
      clear hq_m
      have K_v_6 := Lib.hid hq_v
      clear hq_v
      have K_c_6 := Lib.hid hkn
      clear hkn
      have HB_6 := Lib.hid hbw
      clear hbw
      have ec : cOk t x y u a b = ok k (x + vx) (y + vy) := by simp only [cOk, HP.out, HQ.out, Bool.true_and, EX.out, EY.out, EK.out]
      have hk_c_0_6 := K_c_6.out.cell 0 _ rfl
      have hk_c_1_6 := K_c_6.out.cell 1 _ rfl
      have hk_c_2_6 := K_c_6.out.cell 2 _ rfl
      go_wp2_with fail
      refine (validP_impl k (x + vx) (y + vy) _).mono ?_
      rintro e w5 ⟨rfl, hb⟩
      have K_p_7 := Lib.hid (K_p_6.out.after hb)
      have K_q_7 := Lib.hid (K_q_6.out.after hb)
      have K_r_7 := Lib.hid (K_r_6.out.after hb)
      have K_m_7 := Lib.hid (K_m_6.out.after hb)
      have K_v_7 := Lib.hid (K_v_6.out.after hb)
      have K_c_7 := Lib.hid (K_c_6.out.after hb)
      have HB_7 := Lib.hid (HB_6.out.trans (hb.mono HB_6.out.size))
      clear hb
      by_cases hc : ok k (x + vx) (y + vy) = true
      · rw [hc] at ec ⊢
        obtain ⟨e1, e2, e3⟩ := c_yes ec
        rw [EK.out] at e1
        rw [EX.out] at e2
        rw [EY.out] at e3
        have E0 := Lib.hid ec
        have E1 := Lib.hid e1
        have E2 := Lib.hid e2
        have E3 := Lib.hid e3
        clear ec e1 e2 e3 hc
        clear hk_c_0_6
        clear hk_c_1_6
        clear hk_c_2_6
        have hk_c_0_7 := K_c_7.out.cell 0 _ rfl
        have hk_c_1_7 := K_c_7.out.cell 1 _ rfl
        have hk_c_2_7 := K_c_7.out.cell 2 _ rfl
        have hk_r_0_7 := K_r_7.out.cell 0 _ rfl
        have hk_r_0_7f := K_r_7.out.froz 0 _ rfl
        have hk_r_1_7 := K_r_7.out.cell 1 _ rfl
        have hk_r_1_7f := K_r_7.out.froz 1 _ rfl
        have hk_r_2_7 := K_r_7.out.cell 2 _ rfl
        have hk_r_2_7f := K_r_7.out.froz 2 _ rfl
        go_wp2
        have hr0 := K_r_7.out.cell 0 _ rfl
        have hr1 := K_r_7.out.cell 1 _ rfl
        have hr2 := K_r_7.out.cell 2 _ rfl
        refine bodyPost_ret (v := .tuple #[.agg #[.int .i64 k, .int .i64 (x + vx), .int .i64 (y + vy)], .bool true]) (by simp [results, Tryd.results45, go_sem, hr0, hr1, hr2]) rfl ⟨by rw [E0.out, E1.out, E2.out, E3.out], ?_⟩
        exact (((HB_7.out.setCell (p := ⟨w.heap.size + 1 + 1, 0, none⟩) (by simp; try omega) _).setCell (p := ⟨w.heap.size + 1 + 1, 1, none⟩) (by simp; try omega) _).setCell (p := ⟨w.heap.size + 1 + 1, 2, none⟩) (by simp; try omega) _)
      · rw [Bool.not_eq_true] at hc
        rw [hc] at ec ⊢
        obtain ⟨e1, e2, e3⟩ := c_no ec
        have E0 := Lib.hid ec
        have E1 := Lib.hid e1
        have E2 := Lib.hid e2
        have E3 := Lib.hid e3
        clear ec e1 e2 e3 hc
        clear hk_c_0_6
        clear hk_c_1_6
        clear hk_c_2_6
        have hk_r_0_7 := K_r_7.out.cell 0 _ rfl
        have hk_r_0_7f := K_r_7.out.froz 0 _ rfl
        have hk_r_1_7 := K_r_7.out.cell 1 _ rfl
        have hk_r_1_7f := K_r_7.out.froz 1 _ rfl
        have hk_r_2_7 := K_r_7.out.cell 2 _ rfl
        have hk_r_2_7f := K_r_7.out.froz 2 _ rfl
        go_wp2
        have hr0 := K_r_7.out.cell 0 _ rfl
        have hr1 := K_r_7.out.cell 1 _ rfl
        have hr2 := K_r_7.out.cell 2 _ rfl
        refine bodyPost_ret (v := .tuple #[.agg #[.int .i64 0, .int .i64 0, .int .i64 0], .bool false]) (by simp [results, Tryd.results45, go_sem, hr0, hr1, hr2]) rfl ⟨by rw [E0.out, E1.out, E2.out, E3.out], ?_⟩
        exact (((HB_7.out.setCell (p := ⟨w.heap.size + 1 + 1, 0, none⟩) (by simp; try omega) _).setCell (p := ⟨w.heap.size + 1 + 1, 1, none⟩) (by simp; try omega) _).setCell (p := ⟨w.heap.size + 1 + 1, 2, none⟩) (by simp; try omega) _)
    · rw [Bool.not_eq_true] at hq
      rw [hq]
      have hno : cOk t x y u a b = false := by simp [cOk, hq]
      obtain ⟨e1, e2, e3⟩ := c_no hno
      have E0 := Lib.hid hno
      have E1 := Lib.hid e1
      have E2 := Lib.hid e2
      have E3 := Lib.hid e3
      clear hno e1 e2 e3
      clear hk_q_0_1
      clear hk_q_1_1
      clear hk_q_2_1
      have hk_r_0_2 := K_r_2.out.cell 0 _ rfl
      have hk_r_0_2f := K_r_2.out.froz 0 _ rfl
      have hk_r_1_2 := K_r_2.out.cell 1 _ rfl
      have hk_r_1_2f := K_r_2.out.froz 1 _ rfl
      have hk_r_2_2 := K_r_2.out.cell 2 _ rfl
      have hk_r_2_2f := K_r_2.out.froz 2 _ rfl
      go_wp2
      have hr0 := K_r_2.out.cell 0 _ rfl
      have hr1 := K_r_2.out.cell 1 _ rfl
      have hr2 := K_r_2.out.cell 2 _ rfl
      refine bodyPost_ret (v := .tuple #[.agg #[.int .i64 0, .int .i64 0, .int .i64 0], .bool false]) (by simp [results, Tryd.results45, go_sem, hr0, hr1, hr2]) rfl ⟨by rw [E0.out, E1.out, E2.out, E3.out], ?_⟩
      exact (((HB_2.out.setCell (p := ⟨w.heap.size + 1 + 1, 0, none⟩) (by simp; try omega) _).setCell (p := ⟨w.heap.size + 1 + 1, 1, none⟩) (by simp; try omega) _).setCell (p := ⟨w.heap.size + 1 + 1, 2, none⟩) (by simp; try omega) _)
  · rw [Bool.not_eq_true] at hp
    rw [hp]
    have hno : cOk t x y u a b = false := by simp [cOk, hp]
    obtain ⟨e1, e2, e3⟩ := c_no hno
    have E0 := Lib.hid hno
    have E1 := Lib.hid e1
    have E2 := Lib.hid e2
    have E3 := Lib.hid e3
    clear hno e1 e2 e3
    have hk_r_0_1 := K_r_1.out.cell 0 _ rfl
    have hk_r_0_1f := K_r_1.out.froz 0 _ rfl
    have hk_r_1_1 := K_r_1.out.cell 1 _ rfl
    have hk_r_1_1f := K_r_1.out.froz 1 _ rfl
    have hk_r_2_1 := K_r_1.out.cell 2 _ rfl
    have hk_r_2_1f := K_r_1.out.froz 2 _ rfl
    go_wp2
    have hr0 := K_r_1.out.cell 0 _ rfl
    have hr1 := K_r_1.out.cell 1 _ rfl
    have hr2 := K_r_1.out.cell 2 _ rfl
    refine bodyPost_ret (v := .tuple #[.agg #[.int .i64 0, .int .i64 0, .int .i64 0], .bool false]) (by simp [results, Tryd.results45, go_sem, hr0, hr1, hr2]) rfl ⟨by rw [E0.out, E1.out, E2.out, E3.out], ?_⟩
    exact (((HB_1.out.setCell (p := ⟨w.heap.size + 1 + 1, 0, none⟩) (by simp; try omega) _).setCell (p := ⟨w.heap.size + 1 + 1, 1, none⟩) (by simp; try omega) _).setCell (p := ⟨w.heap.size + 1 + 1, 2, none⟩) (by simp; try omega) _)
end Go.Proofs.YtdilgjakodimbaaDoor
