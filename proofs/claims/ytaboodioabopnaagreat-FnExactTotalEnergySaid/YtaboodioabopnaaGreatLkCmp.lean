/- Links: how two links compare. Conditions: none. -/
import Derived.Test.YtaboodioabopnaaGreatLkBase
namespace Go.Proofs.YtaboodioabopnaaGreat
open Go.RowKit Nt Fr
set_option linter.unusedVariables false

/-- How two integers compare. -/
def cmpI2 (x y : Int) : Int := if x < y then -1 else if y < x then 1 else 0
/-- How the ends of two links compare. -/
def cmpK (A B C E : Int) : Int := if cmpI2 A C ≠ 0 then cmpI2 A C else cmpI2 B E
/-- Is the first before the second? -/
def lessK (A B C E : Int) : Bool := decide (A < C) || (decide (A = C) && decide (B < E))
theorem cmpK_less (A B C E : Int) : (cmpK A B C E < 0) ↔ lessK A B C E = true := by
  unfold cmpK cmpI2 lessK
  simp only [Bool.or_eq_true, Bool.and_eq_true, decide_eq_true_eq]
  split <;> (repeat' split at *) <;> omega
theorem cmpK_zero (A B C E : Int) : cmpK A B C E = 0 ↔ (A = C ∧ B = E) := by
  unfold cmpK cmpI2
  split <;> (repeat' split at *) <;> omega
theorem cmpK_range (A B C E : Int) : -1 ≤ cmpK A B C E ∧ cmpK A B C E ≤ 1 := by
  unfold cmpK cmpI2
  split <;> (repeat' split) <;> omega
set_option maxRecDepth 100000 in
set_option maxHeartbeats 4000000 in
theorem cmpCompare_any (x y : Int) (w : World) : Calls Tryz.prog 145 #[.int .i64 x, .int .i64 y] w fun e w' => e = .returned (.int .i64 (cmpI2 x y)) ∧ Below w.heap.size w w' := by
  by_cases h1 : x < y
  · rw [show cmpI2 x y = -1 from if_pos h1]
    go_enter Tryz.func145, Tryz.ntmps145
    go_wp2
    all_goals go_ret
    all_goals exact ⟨rfl, Below.refl _ _⟩
  · by_cases h2 : y < x
    · rw [show cmpI2 x y = 1 by unfold cmpI2; rw [if_neg h1, if_pos h2]]
      go_enter Tryz.func145, Tryz.ntmps145
      go_wp2
      all_goals go_ret
      all_goals exact ⟨rfl, Below.refl _ _⟩
    · rw [show cmpI2 x y = 0 by unfold cmpI2; rw [if_neg h1, if_neg h2]]
      go_enter Tryz.func145, Tryz.ntmps145
      go_wp2
      all_goals go_ret
      all_goals exact ⟨rfl, Below.refl _ _⟩
set_option maxRecDepth 100000 in
set_option maxHeartbeats 4000000 in
theorem cmpOr_two (x y : Int) (g : Nat) (w : World) (h0 : w.cell? ⟨g, 0, none⟩ = some (.int .i64 x)) (h1 : w.cell? ⟨g, 1, none⟩ = some (.int .i64 y)) : Calls Tryz.prog 168 #[.slice (some ⟨g, 0, none⟩) 2 2] w fun e w' => e = .returned (.int .i64 (if x ≠ 0 then x else y)) ∧ Below w.heap.size w w' := by
  obtain ⟨r, hr⟩ : ∃ z, (if x ≠ 0 then x else y) = z := ⟨_, rfl⟩
  rw [hr]
  have HR := Lib.hid hr
  clear hr
  go_enter Tryz.func168, Tryz.ntmps168
  go_wp2
  go_loopw [8] (fun i wr => wr = w ∧ (i = .int .i64 0 ∨ (i = .int .i64 1 ∧ x = 0) ∨ (i = .int .i64 2 ∧ x = 0 ∧ y = 0))) (fun i _ => 2 - (intOf i).toNat)
  case atStart => exact ⟨rfl, .inl rfl⟩
  case round =>
    obtain ⟨hw, hi⟩ := hrel
    subst hw
    rcases hi with rfl | ⟨rfl, hx⟩ | ⟨rfl, hx, hy⟩
    · by_cases hx : x = 0
      · subst hx
        go_wp2
        exact ⟨⟨by first | rfl | trivial, .inr (.inl ⟨by first | rfl | go_num, by first | rfl | trivial⟩)⟩, by simp [intOf]⟩
      · have HE := Lib.hid (show x = r by have h := HR.out; rw [if_pos hx] at h; exact h)
        go_wp2
        go_ret
        exact ⟨ret_int HE.out, Below.refl _ _⟩
    · by_cases hy : y = 0
      · subst hy
        have HX := Lib.hid hx
        clear hx
        go_wp2
        exact ⟨⟨by first | rfl | trivial, .inr (.inr ⟨by first | rfl | go_num, HX.out, by first | rfl | trivial⟩)⟩, by simp [intOf]⟩
      · have HE := Lib.hid (show y = r by have h := HR.out; rw [if_neg (by simp [hx])] at h; exact h)
        clear hx
        go_wp2
        go_ret
        exact ⟨ret_int HE.out, Below.refl _ _⟩
    · have HE := Lib.hid (show (0 : Int) = r by have h := HR.out; rw [if_neg (by simp [hx])] at h; rw [← h, hy])
      clear hx hy
      go_wp2
      go_ret
      exact ⟨ret_int HE.out, Below.refl _ _⟩
set_option maxRecDepth 100000 in
set_option maxHeartbeats 4000000 in
theorem compareK_f (A B : Int) (P Q R : Fr) (p0 p1 q0 q1 r0 r1 : Value) (C E : Int) (V U T : Fr) (v0 v1 u0 u1 t0 t1 : Value) (w : World) :
    Calls Tryz.prog 166 #[.agg #[.int .i64 A, .int .i64 B, .bool P.s, p0, p1, .bool Q.s, q0, q1, .bool R.s, r0, r1], .agg #[.int .i64 C, .int .i64 E, .bool V.s, v0, v1, .bool U.s, u0, u1, .bool T.s, t0, t1]] w fun e w' => e = .returned (.int .i64 (cmpK A B C E)) ∧ Below w.heap.size w w' := by
  obtain ⟨x, hx⟩ : ∃ z, cmpI2 A C = z := ⟨_, rfl⟩
  obtain ⟨y, hy⟩ : ∃ z, cmpI2 B E = z := ⟨_, rfl⟩
  obtain ⟨r, hr⟩ : ∃ z, cmpK A B C E = z := ⟨_, rfl⟩
  have HR := Lib.hid (show (if x ≠ 0 then x else y) = r by rw [← hx, ← hy, ← hr]; rfl)
  rw [hr]
  have HX := Lib.hid hx
  have HY := Lib.hid hy
  clear hx hy hr
  have S_1 := Lib.hid (show St w ((w.alloc (.cells #[.int .i64 A, .int .i64 B, .bool P.s, p0, p1, .bool Q.s, q0, q1, .bool R.s, r0, r1] 78)).alloc (.cells #[.int .i64 C, .int .i64 E, .bool V.s, v0, v1, .bool U.s, u0, u1, .bool T.s, t0, t1] 78)) [(w.heap.size + 1, [.int .i64 C, .int .i64 E, .bool V.s, v0, v1, .bool U.s, u0, u1, .bool T.s, t0, t1]), (w.heap.size, [.int .i64 A, .int .i64 B, .bool P.s, p0, p1, .bool Q.s, q0, q1, .bool R.s, r0, r1])] [] from (((St.start w).alloc_at (b := w.heap.size) [.int .i64 A, .int .i64 B, .bool P.s, p0, p1, .bool Q.s, q0, q1, .bool R.s, r0, r1] 78 (by first | rfl | simp)).alloc_at (b := w.heap.size + 1) [.int .i64 C, .int .i64 E, .bool V.s, v0, v1, .bool U.s, u0, u1, .bool T.s, t0, t1] 78 (by first | rfl | simp)))
  have hne_b_a : w.heap.size + 1 ≠ w.heap.size := by omega
  have hne_a_b : w.heap.size ≠ w.heap.size + 1 := by omega
  go_enter Tryz.func166, Tryz.ntmps166
  have hk_a_0_1 := S_1.out.cell 1 0 rfl rfl
  have hk_a_1_1 := S_1.out.cell 1 1 rfl rfl
  have hk_a_2_1 := S_1.out.cell 1 2 rfl rfl
  have hk_a_3_1 := S_1.out.cell 1 3 rfl rfl
  have hk_a_4_1 := S_1.out.cell 1 4 rfl rfl
  have hk_a_5_1 := S_1.out.cell 1 5 rfl rfl
  have hk_a_6_1 := S_1.out.cell 1 6 rfl rfl
  have hk_a_7_1 := S_1.out.cell 1 7 rfl rfl
  have hk_a_8_1 := S_1.out.cell 1 8 rfl rfl
  have hk_a_9_1 := S_1.out.cell 1 9 rfl rfl
  have hk_a_10_1 := S_1.out.cell 1 10 rfl rfl
  have hk_b_0_1 := S_1.out.cell 0 0 rfl rfl
  have hk_b_1_1 := S_1.out.cell 0 1 rfl rfl
  have hk_b_2_1 := S_1.out.cell 0 2 rfl rfl
  have hk_b_3_1 := S_1.out.cell 0 3 rfl rfl
  have hk_b_4_1 := S_1.out.cell 0 4 rfl rfl
  have hk_b_5_1 := S_1.out.cell 0 5 rfl rfl
  have hk_b_6_1 := S_1.out.cell 0 6 rfl rfl
  have hk_b_7_1 := S_1.out.cell 0 7 rfl rfl
  have hk_b_8_1 := S_1.out.cell 0 8 rfl rfl
  have hk_b_9_1 := S_1.out.cell 0 9 rfl rfl
  have hk_b_10_1 := S_1.out.cell 0 10 rfl rfl
  go_wp2
  go_region_held3 (fun w' => w'.cell? ⟨w.heap.size + 1, 0, none⟩ = some (.int .i64 C) ∧ w'.cell? ⟨w.heap.size + 1, 1, none⟩ = some (.int .i64 E) ∧ w'.cell? ⟨w.heap.size + 1, 2, none⟩ = some (.bool V.s) ∧ w'.cell? ⟨w.heap.size + 1, 3, none⟩ = some (v0) ∧ w'.cell? ⟨w.heap.size + 1, 4, none⟩ = some (v1) ∧ w'.cell? ⟨w.heap.size + 1, 5, none⟩ = some (.bool U.s) ∧ w'.cell? ⟨w.heap.size + 1, 6, none⟩ = some (u0) ∧ w'.cell? ⟨w.heap.size + 1, 7, none⟩ = some (u1) ∧ w'.cell? ⟨w.heap.size + 1, 8, none⟩ = some (.bool T.s) ∧ w'.cell? ⟨w.heap.size + 1, 9, none⟩ = some (t0) ∧ w'.cell? ⟨w.heap.size + 1, 10, none⟩ = some (t1) ∧ w'.cell? ⟨w.heap.size, 0, none⟩ = some (.int .i64 A) ∧ w'.cell? ⟨w.heap.size, 1, none⟩ = some (.int .i64 B) ∧ w'.cell? ⟨w.heap.size, 2, none⟩ = some (.bool P.s) ∧ w'.cell? ⟨w.heap.size, 3, none⟩ = some (p0) ∧ w'.cell? ⟨w.heap.size, 4, none⟩ = some (p1) ∧ w'.cell? ⟨w.heap.size, 5, none⟩ = some (.bool Q.s) ∧ w'.cell? ⟨w.heap.size, 6, none⟩ = some (q0) ∧ w'.cell? ⟨w.heap.size, 7, none⟩ = some (q1) ∧ w'.cell? ⟨w.heap.size, 8, none⟩ = some (.bool R.s) ∧ w'.cell? ⟨w.heap.size, 9, none⟩ = some (r0) ∧ w'.cell? ⟨w.heap.size, 10, none⟩ = some (r1)) (go_keep)
    (first
      | (go_at_call_of 145 (Value.int .i64 A)
         refine (cmpCompare_any A C _).mono ?_
         rintro e w1 ⟨rfl, hb⟩
         rw [HX.out]
         have S_2 := Lib.hid (S_1.out.drew.call hb)
         clear hb
         have hkp_0_0 := (S_2.out).cell 0 0 rfl rfl
         have hkp_0_1 := (S_2.out).cell 0 1 rfl rfl
         have hkp_0_2 := (S_2.out).cell 0 2 rfl rfl
         have hkp_0_3 := (S_2.out).cell 0 3 rfl rfl
         have hkp_0_4 := (S_2.out).cell 0 4 rfl rfl
         have hkp_0_5 := (S_2.out).cell 0 5 rfl rfl
         have hkp_0_6 := (S_2.out).cell 0 6 rfl rfl
         have hkp_0_7 := (S_2.out).cell 0 7 rfl rfl
         have hkp_0_8 := (S_2.out).cell 0 8 rfl rfl
         have hkp_0_9 := (S_2.out).cell 0 9 rfl rfl
         have hkp_0_10 := (S_2.out).cell 0 10 rfl rfl
         have hkp_1_0 := (S_2.out).cell 1 0 rfl rfl
         have hkp_1_1 := (S_2.out).cell 1 1 rfl rfl
         have hkp_1_2 := (S_2.out).cell 1 2 rfl rfl
         have hkp_1_3 := (S_2.out).cell 1 3 rfl rfl
         have hkp_1_4 := (S_2.out).cell 1 4 rfl rfl
         have hkp_1_5 := (S_2.out).cell 1 5 rfl rfl
         have hkp_1_6 := (S_2.out).cell 1 6 rfl rfl
         have hkp_1_7 := (S_2.out).cell 1 7 rfl rfl
         have hkp_1_8 := (S_2.out).cell 1 8 rfl rfl
         have hkp_1_9 := (S_2.out).cell 1 9 rfl rfl
         have hkp_1_10 := (S_2.out).cell 1 10 rfl rfl)
      | (go_at_call_of 145 (Value.int .i64 B)
         refine (cmpCompare_any B E _).mono ?_
         rintro e w2 ⟨rfl, hb⟩
         rw [HY.out]
         have S_3 := Lib.hid (S_2.out.call hb)
         clear hb
         have hkq_0_0 := (S_3.out).cell 0 0 rfl rfl
         have hkq_0_1 := (S_3.out).cell 0 1 rfl rfl
         have hkq_0_2 := (S_3.out).cell 0 2 rfl rfl
         have hkq_0_3 := (S_3.out).cell 0 3 rfl rfl
         have hkq_0_4 := (S_3.out).cell 0 4 rfl rfl
         have hkq_0_5 := (S_3.out).cell 0 5 rfl rfl
         have hkq_0_6 := (S_3.out).cell 0 6 rfl rfl
         have hkq_0_7 := (S_3.out).cell 0 7 rfl rfl
         have hkq_0_8 := (S_3.out).cell 0 8 rfl rfl
         have hkq_0_9 := (S_3.out).cell 0 9 rfl rfl
         have hkq_0_10 := (S_3.out).cell 0 10 rfl rfl
         have hkq_1_0 := (S_3.out).cell 1 0 rfl rfl
         have hkq_1_1 := (S_3.out).cell 1 1 rfl rfl
         have hkq_1_2 := (S_3.out).cell 1 2 rfl rfl
         have hkq_1_3 := (S_3.out).cell 1 3 rfl rfl
         have hkq_1_4 := (S_3.out).cell 1 4 rfl rfl
         have hkq_1_5 := (S_3.out).cell 1 5 rfl rfl
         have hkq_1_6 := (S_3.out).cell 1 6 rfl rfl
         have hkq_1_7 := (S_3.out).cell 1 7 rfl rfl
         have hkq_1_8 := (S_3.out).cell 1 8 rfl rfl
         have hkq_1_9 := (S_3.out).cell 1 9 rfl rfl
         have hkq_1_10 := (S_3.out).cell 1 10 rfl rfl)
      | (go_at_call 168
         refine (cmpOr_two x y _ _ (by simp [go_sem]) (by simp [go_sem])).mono ?_
         rintro e w3 ⟨rfl, hb⟩
         rw [HR.out]
         have S_4 := Lib.hid ((S_3.out.alloc [.int .i64 x, .int .i64 y] 3).call hb)
         clear hb
         have hkr_1_0 := S_4.out.cell 1 0 rfl rfl
         have hkr_1_1 := S_4.out.cell 1 1 rfl rfl
         have hkr_1_2 := S_4.out.cell 1 2 rfl rfl
         have hkr_1_3 := S_4.out.cell 1 3 rfl rfl
         have hkr_1_4 := S_4.out.cell 1 4 rfl rfl
         have hkr_1_5 := S_4.out.cell 1 5 rfl rfl
         have hkr_1_6 := S_4.out.cell 1 6 rfl rfl
         have hkr_1_7 := S_4.out.cell 1 7 rfl rfl
         have hkr_1_8 := S_4.out.cell 1 8 rfl rfl
         have hkr_1_9 := S_4.out.cell 1 9 rfl rfl
         have hkr_1_10 := S_4.out.cell 1 10 rfl rfl
         have hkr_2_0 := S_4.out.cell 2 0 rfl rfl
         have hkr_2_1 := S_4.out.cell 2 1 rfl rfl
         have hkr_2_2 := S_4.out.cell 2 2 rfl rfl
         have hkr_2_3 := S_4.out.cell 2 3 rfl rfl
         have hkr_2_4 := S_4.out.cell 2 4 rfl rfl
         have hkr_2_5 := S_4.out.cell 2 5 rfl rfl
         have hkr_2_6 := S_4.out.cell 2 6 rfl rfl
         have hkr_2_7 := S_4.out.cell 2 7 rfl rfl
         have hkr_2_8 := S_4.out.cell 2 8 rfl rfl
         have hkr_2_9 := S_4.out.cell 2 9 rfl rfl
         have hkr_2_10 := S_4.out.cell 2 10 rfl rfl))
  all_goals go_wp2
  all_goals go_ret
  all_goals exact ⟨rfl, S_4.out.below⟩
end Go.Proofs.YtaboodioabopnaaGreat
