/- Poses: rotation by quarter turns: the model's loop, the program's matrices. Conditions: none. -/
import Derived.Test.YtdilgjakodimbaaDoorPose1
namespace Go.Proofs.YtdilgjakodimbaaDoor
open Go.RowKit Po
set_option linter.unusedVariables false

namespace Po
/-- A vector rotated by t quarter turns. -/
def rX (t x y : Int) : Int := if t = 0 then x else if t = 1 then -y else if t = 2 then -x else y
def rY (t x y : Int) : Int := if t = 0 then y else if t = 1 then x else if t = 2 then -y else -x
theorem four {t : Int} (h0 : 0 ≤ t) (h1 : t ≤ 3) : t = 0 ∨ t = 1 ∨ t = 2 ∨ t = 3 := by omega
theorem rX_bd {t x y : Int} (hx : -1000000 ≤ x ∧ x ≤ 1000000) (hy : -1000000 ≤ y ∧ y ≤ 1000000) : -1000000 ≤ rX t x y ∧ rX t x y ≤ 1000000 := by unfold rX; split; omega; split; omega; split <;> omega
theorem rY_bd {t x y : Int} (hx : -1000000 ≤ x ∧ x ≤ 1000000) (hy : -1000000 ≤ y ∧ y ≤ 1000000) : -1000000 ≤ rY t x y ∧ rY t x y ≤ 1000000 := by unfold rY; split; omega; split; omega; split <;> omega
theorem unit_bd (t : Int) : (-1 ≤ rX t 1 0 ∧ rX t 1 0 ≤ 1) ∧ (-1 ≤ rY t 1 0 ∧ rY t 1 0 ≤ 1) ∧ (-1 ≤ rX t 0 1 ∧ rX t 0 1 ≤ 1) ∧ -1 ≤ rY t 0 1 ∧ rY t 0 1 ≤ 1 := by
  unfold rX rY; split; omega; split; omega; split <;> omega
/-- The matrix of a product of quarter turns. -/
theorem turn_mul {t u : Int} (h0 : 0 ≤ t) (h1 : t ≤ 3) (k0 : 0 ≤ u) (k1 : u ≤ 3) : rX t (rX u 1 0) (rY u 1 0) = rX ((t + u) % 4) 1 0 ∧ rY t (rX u 1 0) (rY u 1 0) = rY ((t + u) % 4) 1 0 ∧ rX t (rX u 0 1) (rY u 0 1) = rX ((t + u) % 4) 0 1 ∧ rY t (rX u 0 1) (rY u 0 1) = rY ((t + u) % 4) 0 1 := by
  rcases four h0 h1 with rfl | rfl | rfl | rfl <;> rcases four k0 k1 with rfl | rfl | rfl | rfl <;> decide
/-- The matrix of the turn back. -/
theorem turn_back {t : Int} (h0 : 0 ≤ t) (h1 : t ≤ 3) : rX t 1 0 = rX ((4 - t) % 4) 1 0 ∧ rX t 0 1 = rY ((4 - t) % 4) 1 0 ∧ rY t 1 0 = rX ((4 - t) % 4) 0 1 ∧ rY t 0 1 = rY ((4 - t) % 4) 0 1 := by
  rcases four h0 h1 with rfl | rfl | rfl | rfl <;> decide
end Po
set_option maxRecDepth 100000 in
set_option maxHeartbeats 4000000 in
theorem rotate_any (t x y : Int) (w : World) (h0 : 0 ≤ t) (h1 : t ≤ 3) (hx : -1000000 ≤ x ∧ x ≤ 1000000) (hy : -1000000 ≤ y ∧ y ≤ 1000000) : Calls Tryd.prog 47 #[.agg #[.int .i64 (rX t 1 0), .int .i64 (rY t 1 0), .int .i64 (rX t 0 1), .int .i64 (rY t 0 1)], .agg #[.int .i64 x, .int .i64 y]] w fun e w' => e = .returned (.agg #[.int .i64 (rX t x y), .int .i64 (rY t x y)]) ∧ Below w.heap.size w w' := by
  rcases four h0 h1 with rfl | rfl | rfl | rfl
  · show Calls Tryd.prog 47 #[.agg #[.int .i64 1, .int .i64 0, .int .i64 0, .int .i64 1], .agg #[.int .i64 x, .int .i64 y]] w _
    clear h0 h1
    go_enter Tryd.func47, Tryd.ntmps47
    go_wp2
    exact bodyPost_ret (v := .agg #[.int .i64 x, .int .i64 y]) (by simp [results, Tryd.results47, go_sem]) rfl ⟨rfl, (((Below.refl _ _).alloc (Nat.le_refl _) _).alloc (by simp) _).alloc (by simp; omega) _⟩
  · show Calls Tryd.prog 47 #[.agg #[.int .i64 0, .int .i64 1, .int .i64 (-1), .int .i64 0], .agg #[.int .i64 x, .int .i64 y]] w _
    clear h0 h1
    go_enter Tryd.func47, Tryd.ntmps47
    go_wp2
    exact bodyPost_ret (v := .agg #[.int .i64 (-y), .int .i64 x]) (by simp [results, Tryd.results47, go_sem]) rfl ⟨rfl, (((Below.refl _ _).alloc (Nat.le_refl _) _).alloc (by simp) _).alloc (by simp; omega) _⟩
  · show Calls Tryd.prog 47 #[.agg #[.int .i64 (-1), .int .i64 0, .int .i64 0, .int .i64 (-1)], .agg #[.int .i64 x, .int .i64 y]] w _
    clear h0 h1
    go_enter Tryd.func47, Tryd.ntmps47
    go_wp2
    exact bodyPost_ret (v := .agg #[.int .i64 (-x), .int .i64 (-y)]) (by simp [results, Tryd.results47, go_sem]) rfl ⟨rfl, (((Below.refl _ _).alloc (Nat.le_refl _) _).alloc (by simp) _).alloc (by simp; omega) _⟩
  · show Calls Tryd.prog 47 #[.agg #[.int .i64 0, .int .i64 (-1), .int .i64 1, .int .i64 0], .agg #[.int .i64 x, .int .i64 y]] w _
    clear h0 h1
    go_enter Tryd.func47, Tryd.ntmps47
    go_wp2
    exact bodyPost_ret (v := .agg #[.int .i64 y, .int .i64 (-x)]) (by simp [results, Tryd.results47, go_sem]) rfl ⟨rfl, (((Below.refl _ _).alloc (Nat.le_refl _) _).alloc (by simp) _).alloc (by simp; omega) _⟩
/-- The variable quarterTurns holds the four matrices. -/
structure LaidQ (w : World) : Prop where
  lt : 0 < w.heap.size
  c0 : w.cell? ⟨0, 0, none⟩ = some (.int .i64 1)
  c1 : w.cell? ⟨0, 1, none⟩ = some (.int .i64 0)
  c2 : w.cell? ⟨0, 2, none⟩ = some (.int .i64 0)
  c3 : w.cell? ⟨0, 3, none⟩ = some (.int .i64 1)
  c4 : w.cell? ⟨0, 4, none⟩ = some (.int .i64 0)
  c5 : w.cell? ⟨0, 5, none⟩ = some (.int .i64 1)
  c6 : w.cell? ⟨0, 6, none⟩ = some (.int .i64 (-1))
  c7 : w.cell? ⟨0, 7, none⟩ = some (.int .i64 0)
  c8 : w.cell? ⟨0, 8, none⟩ = some (.int .i64 (-1))
  c9 : w.cell? ⟨0, 9, none⟩ = some (.int .i64 0)
  c10 : w.cell? ⟨0, 10, none⟩ = some (.int .i64 0)
  c11 : w.cell? ⟨0, 11, none⟩ = some (.int .i64 (-1))
  c12 : w.cell? ⟨0, 12, none⟩ = some (.int .i64 0)
  c13 : w.cell? ⟨0, 13, none⟩ = some (.int .i64 (-1))
  c14 : w.cell? ⟨0, 14, none⟩ = some (.int .i64 1)
  c15 : w.cell? ⟨0, 15, none⟩ = some (.int .i64 0)
theorem LaidQ.below {w w' : World} (h : LaidQ w) (hb : Below w.heap.size w w') : LaidQ w' :=
  ⟨Nat.lt_of_lt_of_le h.lt hb.size, (hb.cell (p := ⟨_, 0, none⟩) h.lt).trans h.c0, (hb.cell (p := ⟨_, 1, none⟩) h.lt).trans h.c1, (hb.cell (p := ⟨_, 2, none⟩) h.lt).trans h.c2, (hb.cell (p := ⟨_, 3, none⟩) h.lt).trans h.c3, (hb.cell (p := ⟨_, 4, none⟩) h.lt).trans h.c4, (hb.cell (p := ⟨_, 5, none⟩) h.lt).trans h.c5, (hb.cell (p := ⟨_, 6, none⟩) h.lt).trans h.c6, (hb.cell (p := ⟨_, 7, none⟩) h.lt).trans h.c7, (hb.cell (p := ⟨_, 8, none⟩) h.lt).trans h.c8, (hb.cell (p := ⟨_, 9, none⟩) h.lt).trans h.c9, (hb.cell (p := ⟨_, 10, none⟩) h.lt).trans h.c10, (hb.cell (p := ⟨_, 11, none⟩) h.lt).trans h.c11, (hb.cell (p := ⟨_, 12, none⟩) h.lt).trans h.c12, (hb.cell (p := ⟨_, 13, none⟩) h.lt).trans h.c13, (hb.cell (p := ⟨_, 14, none⟩) h.lt).trans h.c14, (hb.cell (p := ⟨_, 15, none⟩) h.lt).trans h.c15⟩
theorem LaidQ.drew {w : World} (h : LaidQ w) : LaidQ w.drew := ⟨h.lt, h.c0, h.c1, h.c2, h.c3, h.c4, h.c5, h.c6, h.c7, h.c8, h.c9, h.c10, h.c11, h.c12, h.c13, h.c14, h.c15⟩
theorem idx0 (w : World) : (Instr.index 77 (.agg #[.int .i64 1, .int .i64 0, .int .i64 0, .int .i64 1, .int .i64 0, .int .i64 1, .int .i64 (-1), .int .i64 0, .int .i64 (-1), .int .i64 0, .int .i64 0, .int .i64 (-1), .int .i64 0, .int .i64 (-1), .int .i64 1, .int .i64 0]) (.int .i64 0)).run Tryd.prog w = .ok (.agg #[.int .i64 1, .int .i64 0, .int .i64 0, .int .i64 1]) w := by kernel_rfl
theorem idx1 (w : World) : (Instr.index 77 (.agg #[.int .i64 1, .int .i64 0, .int .i64 0, .int .i64 1, .int .i64 0, .int .i64 1, .int .i64 (-1), .int .i64 0, .int .i64 (-1), .int .i64 0, .int .i64 0, .int .i64 (-1), .int .i64 0, .int .i64 (-1), .int .i64 1, .int .i64 0]) (.int .i64 1)).run Tryd.prog w = .ok (.agg #[.int .i64 0, .int .i64 1, .int .i64 (-1), .int .i64 0]) w := by kernel_rfl
theorem idx2 (w : World) : (Instr.index 77 (.agg #[.int .i64 1, .int .i64 0, .int .i64 0, .int .i64 1, .int .i64 0, .int .i64 1, .int .i64 (-1), .int .i64 0, .int .i64 (-1), .int .i64 0, .int .i64 0, .int .i64 (-1), .int .i64 0, .int .i64 (-1), .int .i64 1, .int .i64 0]) (.int .i64 2)).run Tryd.prog w = .ok (.agg #[.int .i64 (-1), .int .i64 0, .int .i64 0, .int .i64 (-1)]) w := by kernel_rfl
theorem idx3 (w : World) : (Instr.index 77 (.agg #[.int .i64 1, .int .i64 0, .int .i64 0, .int .i64 1, .int .i64 0, .int .i64 1, .int .i64 (-1), .int .i64 0, .int .i64 (-1), .int .i64 0, .int .i64 0, .int .i64 (-1), .int .i64 0, .int .i64 (-1), .int .i64 1, .int .i64 0]) (.int .i64 3)).run Tryd.prog w = .ok (.agg #[.int .i64 0, .int .i64 (-1), .int .i64 1, .int .i64 0]) w := by kernel_rfl
theorem eqm00 (w : World) : (binOp .eql 76 (.agg #[.int .i64 1, .int .i64 0, .int .i64 0, .int .i64 1]) (.agg #[.int .i64 1, .int .i64 0, .int .i64 0, .int .i64 1])).run Tryd.prog w = .ok (.bool true) w := by kernel_rfl
theorem eqm01 (w : World) : (binOp .eql 76 (.agg #[.int .i64 1, .int .i64 0, .int .i64 0, .int .i64 1]) (.agg #[.int .i64 0, .int .i64 1, .int .i64 (-1), .int .i64 0])).run Tryd.prog w = .ok (.bool false) w := by kernel_rfl
theorem eqm11 (w : World) : (binOp .eql 76 (.agg #[.int .i64 0, .int .i64 1, .int .i64 (-1), .int .i64 0]) (.agg #[.int .i64 0, .int .i64 1, .int .i64 (-1), .int .i64 0])).run Tryd.prog w = .ok (.bool true) w := by kernel_rfl
theorem eqm02 (w : World) : (binOp .eql 76 (.agg #[.int .i64 1, .int .i64 0, .int .i64 0, .int .i64 1]) (.agg #[.int .i64 (-1), .int .i64 0, .int .i64 0, .int .i64 (-1)])).run Tryd.prog w = .ok (.bool false) w := by kernel_rfl
theorem eqm12 (w : World) : (binOp .eql 76 (.agg #[.int .i64 0, .int .i64 1, .int .i64 (-1), .int .i64 0]) (.agg #[.int .i64 (-1), .int .i64 0, .int .i64 0, .int .i64 (-1)])).run Tryd.prog w = .ok (.bool false) w := by kernel_rfl
theorem eqm22 (w : World) : (binOp .eql 76 (.agg #[.int .i64 (-1), .int .i64 0, .int .i64 0, .int .i64 (-1)]) (.agg #[.int .i64 (-1), .int .i64 0, .int .i64 0, .int .i64 (-1)])).run Tryd.prog w = .ok (.bool true) w := by kernel_rfl
theorem eqm03 (w : World) : (binOp .eql 76 (.agg #[.int .i64 1, .int .i64 0, .int .i64 0, .int .i64 1]) (.agg #[.int .i64 0, .int .i64 (-1), .int .i64 1, .int .i64 0])).run Tryd.prog w = .ok (.bool false) w := by kernel_rfl
theorem eqm13 (w : World) : (binOp .eql 76 (.agg #[.int .i64 0, .int .i64 1, .int .i64 (-1), .int .i64 0]) (.agg #[.int .i64 0, .int .i64 (-1), .int .i64 1, .int .i64 0])).run Tryd.prog w = .ok (.bool false) w := by kernel_rfl
theorem eqm23 (w : World) : (binOp .eql 76 (.agg #[.int .i64 (-1), .int .i64 0, .int .i64 0, .int .i64 (-1)]) (.agg #[.int .i64 0, .int .i64 (-1), .int .i64 1, .int .i64 0])).run Tryd.prog w = .ok (.bool false) w := by kernel_rfl
theorem eqm33 (w : World) : (binOp .eql 76 (.agg #[.int .i64 0, .int .i64 (-1), .int .i64 1, .int .i64 0]) (.agg #[.int .i64 0, .int .i64 (-1), .int .i64 1, .int .i64 0])).run Tryd.prog w = .ok (.bool true) w := by kernel_rfl
set_option maxRecDepth 100000 in
set_option maxHeartbeats 4000000 in
theorem turnOf_any (t : Int) (w : World) (h0 : 0 ≤ t) (h1 : t ≤ 3) (hl : LaidQ w) : Calls Tryd.prog 48 #[.agg #[.int .i64 (rX t 1 0), .int .i64 (rY t 1 0), .int .i64 (rX t 0 1), .int .i64 (rY t 0 1)]] w fun e w' => e = .returned (.int .i64 t) ∧ Below w.heap.size w w' := by
  have hlt := hl.lt
  have q0 := hl.c0
  have q1 := hl.c1
  have q2 := hl.c2
  have q3 := hl.c3
  have q4 := hl.c4
  have q5 := hl.c5
  have q6 := hl.c6
  have q7 := hl.c7
  have q8 := hl.c8
  have q9 := hl.c9
  have q10 := hl.c10
  have q11 := hl.c11
  have q12 := hl.c12
  have q13 := hl.c13
  have q14 := hl.c14
  have q15 := hl.c15
  have i0 := idx0
  have i1 := idx1
  have i2 := idx2
  have i3 := idx3
  clear hl
  rcases four h0 h1 with rfl | rfl | rfl | rfl
  · show Calls Tryd.prog 48 #[.agg #[.int .i64 1, .int .i64 0, .int .i64 0, .int .i64 1]] w _
    clear h0 h1
    have e0 := eqm00
    go_enter Tryd.func48, Tryd.ntmps48
    go_wp2
    refine wp_loop_rounds 5 ?_
    rw [rounds_succ]
    go_wp2
    go_ret
    exact ⟨rfl, (((Below.refl _ _).alloc (Nat.le_refl _) _).alloc (by simp) _)⟩
  · show Calls Tryd.prog 48 #[.agg #[.int .i64 0, .int .i64 1, .int .i64 (-1), .int .i64 0]] w _
    clear h0 h1
    have e0 := eqm01
    have e1 := eqm11
    go_enter Tryd.func48, Tryd.ntmps48
    go_wp2
    refine wp_loop_rounds 5 ?_
    rw [rounds_succ]
    go_wp2
    rw [rounds_succ]
    go_wp2
    go_ret
    exact ⟨rfl, ((((Below.refl _ _).alloc (Nat.le_refl _) _).alloc (by simp) _).alloc (by simp; omega) _)⟩
  · show Calls Tryd.prog 48 #[.agg #[.int .i64 (-1), .int .i64 0, .int .i64 0, .int .i64 (-1)]] w _
    clear h0 h1
    have e0 := eqm02
    have e1 := eqm12
    have e2 := eqm22
    go_enter Tryd.func48, Tryd.ntmps48
    go_wp2
    refine wp_loop_rounds 5 ?_
    rw [rounds_succ]
    go_wp2
    rw [rounds_succ]
    go_wp2
    rw [rounds_succ]
    go_wp2
    go_ret
    exact ⟨rfl, (((((Below.refl _ _).alloc (Nat.le_refl _) _).alloc (by simp) _).alloc (by simp; omega) _).alloc (by simp; omega) _)⟩
  · show Calls Tryd.prog 48 #[.agg #[.int .i64 0, .int .i64 (-1), .int .i64 1, .int .i64 0]] w _
    clear h0 h1
    have e0 := eqm03
    have e1 := eqm13
    have e2 := eqm23
    have e3 := eqm33
    go_enter Tryd.func48, Tryd.ntmps48
    go_wp2
    refine wp_loop_rounds 5 ?_
    rw [rounds_succ]
    go_wp2
    rw [rounds_succ]
    go_wp2
    rw [rounds_succ]
    go_wp2
    rw [rounds_succ]
    go_wp2
    go_ret
    exact ⟨rfl, ((((((Below.refl _ _).alloc (Nat.le_refl _) _).alloc (by simp) _).alloc (by simp; omega) _).alloc (by simp; omega) _).alloc (by simp; omega) _)⟩
set_option maxRecDepth 100000 in
set_option maxHeartbeats 4000000 in
theorem transposed_any (a b c d : Int) (w : World) : Calls Tryd.prog 46 #[.agg #[.int .i64 a, .int .i64 b, .int .i64 c, .int .i64 d]] w fun e w' => e = .returned (.agg #[.int .i64 a, .int .i64 c, .int .i64 b, .int .i64 d]) ∧ Below w.heap.size w w' := by
  go_enter Tryd.func46, Tryd.ntmps46
  go_wp2
  exact bodyPost_ret (v := .agg #[.int .i64 a, .int .i64 c, .int .i64 b, .int .i64 d]) (by simp [results, Tryd.results46, go_sem]) rfl ⟨rfl, (((Below.refl _ _).alloc (Nat.le_refl _) _).alloc (by simp) _)⟩
end Go.Proofs.YtdilgjakodimbaaDoor
