/- Proved: at every link and all points, impl.LinkEnergy answers as its model spec.LinkEnergy in every result, writes into no argument, its answer owns its memory, the call returns true and changes no memory that was there. Conditions: none. -/
import Derived.Test.YtgjaennedihckaaGreatRows
import Derived.Test.YtgjaennedihckaaGreatB1
import Derived.Test.YtgjaennedihckaaGreatLkBase
import Derived.WalkKit
import Derived.ProofKit
import Derived.OpenShut
import Derived.ShutString
import Derived.ChangeOld
import Derived.Below
namespace Go.Proofs.YtgjaennedihckaaGreat.lawLinkEnergy
open Go.ChangeShapes Go.WideShapes Go.ChangeAt Go.RowKit
open Go.ChangeMaps (open_string shut_string)
set_option linter.unusedVariables false

theorem own : ownKnob Tryz.prog.godebug = none := by kernel_rfl
theorem laidOut : laidOutB Tryz.prog = true := by kernel_rfl
open Nt Fr

set_option maxRecDepth 100000 in
set_option maxHeartbeats 4000000 in
theorem walk (W : World) (A0 B0 : Int) (P0 Q0 R0 : Fr) (p00 p01 q00 q01 r00 r01 : Value) (w0 : LkI W P0 Q0 R0 p00 p01 q00 q01 r00 r01) (X1 Y1 : Fr) (x10 x11 y10 y11 : Value) (w1 : FrI W X1 x10 x11) (w1b : FrI W Y1 y10 y11) (X2 Y2 : Fr) (x20 x21 y20 y21 : Value) (w2 : FrI W X2 x20 x21) (w2b : FrI W Y2 y20 y21) :
    Calls Tryz.prog 3 #[.agg #[.int .i64 A0, .int .i64 B0, .bool P0.s, p00, p01, .bool Q0.s, q00, q01, .bool R0.s, r00, r01], .agg #[.bool X1.s, x10, x11, .bool Y1.s, y10, y11], .agg #[.bool X2.s, x20, x21, .bool Y2.s, y20, y21]] W fun e w' => e = .returned (.bool true) ∧ Below W.heap.size W w' := by
  obtain ⟨G, hG⟩ : ∃ z, leF A0 B0 P0 Q0 R0 X1 Y1 X2 Y2 = z := ⟨_, rfl⟩
  have hlen : G.len ≤ 1048576 := Nat.le_trans (hG ▸ leF_good _ _ _ _ _ _ _ _ _ : G.Good).len (by decide)
  have HG := Lib.hid hG
  clear hG
  have HA0 := Lib.hid w0
  clear w0
  have HA1 := Lib.hid w1
  have HA1b := Lib.hid w1b
  clear w1 w1b
  have HA2 := Lib.hid w2
  have HA2b := Lib.hid w2b
  clear w2 w2b
  have S_1 := Lib.hid (show St W (((W.alloc (.cells #[.int .i64 A0, .int .i64 B0, .bool P0.s, p00, p01, .bool Q0.s, q00, q01, .bool R0.s, r00, r01] 28)).alloc (.cells #[.bool X1.s, x10, x11, .bool Y1.s, y10, y11] 30)).alloc (.cells #[.bool X2.s, x20, x21, .bool Y2.s, y20, y21] 30)) [(W.heap.size + 1 + 1, [.bool X2.s, x20, x21, .bool Y2.s, y20, y21]), (W.heap.size + 1, [.bool X1.s, x10, x11, .bool Y1.s, y10, y11]), (W.heap.size, [.int .i64 A0, .int .i64 B0, .bool P0.s, p00, p01, .bool Q0.s, q00, q01, .bool R0.s, r00, r01])] [] from ((((St.start W).alloc_at (b := W.heap.size) [.int .i64 A0, .int .i64 B0, .bool P0.s, p00, p01, .bool Q0.s, q00, q01, .bool R0.s, r00, r01] 28 (by first | rfl | simp)).alloc_at (b := W.heap.size + 1) [.bool X1.s, x10, x11, .bool Y1.s, y10, y11] 30 (by first | rfl | simp)).alloc_at (b := W.heap.size + 1 + 1) [.bool X2.s, x20, x21, .bool Y2.s, y20, y21] 30 (by first | rfl | simp)))
  have hne_arg2_arg1 : W.heap.size + 1 + 1 ≠ W.heap.size + 1 := by omega
  have hne_arg2_arg0 : W.heap.size + 1 + 1 ≠ W.heap.size := by omega
  have hne_arg1_arg2 : W.heap.size + 1 ≠ W.heap.size + 1 + 1 := by omega
  have hne_arg1_arg0 : W.heap.size + 1 ≠ W.heap.size := by omega
  have hne_arg0_arg2 : W.heap.size ≠ W.heap.size + 1 + 1 := by omega
  have hne_arg0_arg1 : W.heap.size ≠ W.heap.size + 1 := by omega
  go_enter Tryz.func3, Tryz.ntmps3
  go_wp2_with fail
  refine (szLink_f A0 B0 P0 Q0 R0 p00 p01 q00 q01 r00 r01 _ 1048576 (by omega) (by omega) (S_1.out.lkI HA0.out)).mono ?_
  rintro e w1 ⟨rfl, hb⟩
  have S_2 := Lib.hid (S_1.out.call hb)
  clear S_1
  clear hb
  by_cases hs0 : (1048576 : Int) < ((P0.len + Q0.len + R0.len : Nat) : Int)
  · rw [szOf_neg hs0]
    go_wp2
    go_ret
    exact ⟨rfl, S_2.out.below⟩
  rw [szOf_pos hs0]
  obtain ⟨left0, hq0⟩ : ∃ q : Int, 1048576 - ((P0.len + Q0.len + R0.len : Nat) : Int) = q := ⟨_, rfl⟩
  have hl0 : 0 ≤ left0 ∧ left0 ≤ 1048576 ∧ P0.len + Q0.len + R0.len ≤ 1048576 := by omega
  rw [hq0]
  have HL0 := Lib.hid hl0.2.2
  clear hq0 hs0
  have hk_arg1_0_2 := S_2.out.cell 1 0 rfl rfl
  have hk_arg1_1_2 := S_2.out.cell 1 1 rfl rfl
  have hk_arg1_2_2 := S_2.out.cell 1 2 rfl rfl
  have hk_arg1_3_2 := S_2.out.cell 1 3 rfl rfl
  have hk_arg1_4_2 := S_2.out.cell 1 4 rfl rfl
  have hk_arg1_5_2 := S_2.out.cell 1 5 rfl rfl
  go_wp2_with fail
  refine (szPoint_f X1 Y1 x10 x11 y10 y11 _ left0 (by omega) (by omega) (S_2.out.frI HA1.out) (S_2.out.frI HA1b.out)).mono ?_
  rintro e w2 ⟨rfl, hb⟩
  have S_3 := Lib.hid (S_2.out.call hb)
  clear S_2
  clear hb
  clear hk_arg1_0_2 hk_arg1_1_2 hk_arg1_2_2 hk_arg1_3_2 hk_arg1_4_2 hk_arg1_5_2
  by_cases hs1 : (left0 : Int) < ((X1.len + Y1.len : Nat) : Int)
  · rw [szOf_neg hs1]
    go_wp2
    go_ret
    exact ⟨rfl, S_3.out.below⟩
  rw [szOf_pos hs1]
  obtain ⟨left1, hq1⟩ : ∃ q : Int, left0 - ((X1.len + Y1.len : Nat) : Int) = q := ⟨_, rfl⟩
  have hl1 : 0 ≤ left1 ∧ left1 ≤ 1048576 ∧ X1.len + Y1.len ≤ 1048576 := by omega
  rw [hq1]
  have HL1 := Lib.hid hl1.2.2
  clear hq1 hs1
  have hk_arg2_0_3 := S_3.out.cell 0 0 rfl rfl
  have hk_arg2_1_3 := S_3.out.cell 0 1 rfl rfl
  have hk_arg2_2_3 := S_3.out.cell 0 2 rfl rfl
  have hk_arg2_3_3 := S_3.out.cell 0 3 rfl rfl
  have hk_arg2_4_3 := S_3.out.cell 0 4 rfl rfl
  have hk_arg2_5_3 := S_3.out.cell 0 5 rfl rfl
  go_wp2_with fail
  refine (szPoint_f X2 Y2 x20 x21 y20 y21 _ left1 (by omega) (by omega) (S_3.out.frI HA2.out) (S_3.out.frI HA2b.out)).mono ?_
  rintro e w3 ⟨rfl, hb⟩
  have S_4 := Lib.hid (S_3.out.call hb)
  clear S_3
  clear hb
  clear hk_arg2_0_3 hk_arg2_1_3 hk_arg2_2_3 hk_arg2_3_3 hk_arg2_4_3 hk_arg2_5_3
  by_cases hs2 : (left1 : Int) < ((X2.len + Y2.len : Nat) : Int)
  · rw [szOf_neg hs2]
    go_wp2
    go_ret
    exact ⟨rfl, S_4.out.below⟩
  rw [szOf_pos hs2]
  obtain ⟨left2, hq2⟩ : ∃ q : Int, left1 - ((X2.len + Y2.len : Nat) : Int) = q := ⟨_, rfl⟩
  have hl2 : 0 ≤ left2 ∧ left2 ≤ 1048576 ∧ X2.len + Y2.len ≤ 1048576 := by omega
  rw [hq2]
  have HL2 := Lib.hid hl2.2.2
  clear hq2 hs2
  have hk_arg0_0_4 := S_4.out.cell 2 0 rfl rfl
  have hk_arg0_1_4 := S_4.out.cell 2 1 rfl rfl
  have hk_arg0_2_4 := S_4.out.cell 2 2 rfl rfl
  have hk_arg0_3_4 := S_4.out.cell 2 3 rfl rfl
  have hk_arg0_4_4 := S_4.out.cell 2 4 rfl rfl
  have hk_arg0_5_4 := S_4.out.cell 2 5 rfl rfl
  have hk_arg0_6_4 := S_4.out.cell 2 6 rfl rfl
  have hk_arg0_7_4 := S_4.out.cell 2 7 rfl rfl
  have hk_arg0_8_4 := S_4.out.cell 2 8 rfl rfl
  have hk_arg0_9_4 := S_4.out.cell 2 9 rfl rfl
  have hk_arg0_10_4 := S_4.out.cell 2 10 rfl rfl
  have hk_arg1_0_4 := S_4.out.cell 1 0 rfl rfl
  have hk_arg1_1_4 := S_4.out.cell 1 1 rfl rfl
  have hk_arg1_2_4 := S_4.out.cell 1 2 rfl rfl
  have hk_arg1_3_4 := S_4.out.cell 1 3 rfl rfl
  have hk_arg1_4_4 := S_4.out.cell 1 4 rfl rfl
  have hk_arg1_5_4 := S_4.out.cell 1 5 rfl rfl
  have hk_arg2_0_4 := S_4.out.cell 0 0 rfl rfl
  have hk_arg2_1_4 := S_4.out.cell 0 1 rfl rfl
  have hk_arg2_2_4 := S_4.out.cell 0 2 rfl rfl
  have hk_arg2_3_4 := S_4.out.cell 0 3 rfl rfl
  have hk_arg2_4_4 := S_4.out.cell 0 4 rfl rfl
  have hk_arg2_5_4 := S_4.out.cell 0 5 rfl rfl
  go_upto_region 11 with fail
  go_cut [8] (fun ptr wx => ∃ blk Aw nw cw Bw mw dw, ptr = .pointer (some ⟨blk, 0, none⟩) ∧ St W wx [(W.heap.size + 1 + 1, [.bool X2.s, x20, x21, .bool Y2.s, y20, y21]), (W.heap.size + 1, [.bool X1.s, x10, x11, .bool Y1.s, y10, y11]), (W.heap.size, [.int .i64 A0, .int .i64 B0, .bool P0.s, p00, p01, .bool Q0.s, q00, q01, .bool R0.s, r00, r01]), (blk, [.bool G.s, (.slice Aw nw cw), (.slice Bw mw dw)])] [[((.slice Aw nw cw), ints G.xs), ((.slice Bw mw dw), ints G.ys)]])
  case first =>
    go_region_held3 (fun w' => w'.cell? ⟨W.heap.size + 1 + 1, 0, none⟩ = some (.bool X2.s) ∧ w'.cell? ⟨W.heap.size + 1 + 1, 1, none⟩ = some (x20) ∧ w'.cell? ⟨W.heap.size + 1 + 1, 2, none⟩ = some (x21) ∧ w'.cell? ⟨W.heap.size + 1 + 1, 3, none⟩ = some (.bool Y2.s) ∧ w'.cell? ⟨W.heap.size + 1 + 1, 4, none⟩ = some (y20) ∧ w'.cell? ⟨W.heap.size + 1 + 1, 5, none⟩ = some (y21) ∧ w'.cell? ⟨W.heap.size + 1, 0, none⟩ = some (.bool X1.s) ∧ w'.cell? ⟨W.heap.size + 1, 1, none⟩ = some (x10) ∧ w'.cell? ⟨W.heap.size + 1, 2, none⟩ = some (x11) ∧ w'.cell? ⟨W.heap.size + 1, 3, none⟩ = some (.bool Y1.s) ∧ w'.cell? ⟨W.heap.size + 1, 4, none⟩ = some (y10) ∧ w'.cell? ⟨W.heap.size + 1, 5, none⟩ = some (y11) ∧ w'.cell? ⟨W.heap.size, 0, none⟩ = some (.int .i64 A0) ∧ w'.cell? ⟨W.heap.size, 1, none⟩ = some (.int .i64 B0) ∧ w'.cell? ⟨W.heap.size, 2, none⟩ = some (.bool P0.s) ∧ w'.cell? ⟨W.heap.size, 3, none⟩ = some (p00) ∧ w'.cell? ⟨W.heap.size, 4, none⟩ = some (p01) ∧ w'.cell? ⟨W.heap.size, 5, none⟩ = some (.bool Q0.s) ∧ w'.cell? ⟨W.heap.size, 6, none⟩ = some (q00) ∧ w'.cell? ⟨W.heap.size, 7, none⟩ = some (q01) ∧ w'.cell? ⟨W.heap.size, 8, none⟩ = some (.bool R0.s) ∧ w'.cell? ⟨W.heap.size, 9, none⟩ = some (r00) ∧ w'.cell? ⟨W.heap.size, 10, none⟩ = some (r01)) (go_keep)
      (first
        | (go_at_call_of 11 (Value.agg #[Value.int .i64 A0, Value.int .i64 B0, Value.bool P0.s, p00, p01, Value.bool Q0.s, q00, q01, Value.bool R0.s, r00, r01])
           first | refine (toLink_f A0 B0 P0 Q0 R0 p00 p01 q00 q01 r00 r01 _ (S_4.out.drew.lkI HA0.out) HL0.out).mono ?_ | refine (toLink_f A0 B0 P0 Q0 R0 p00 p01 q00 q01 r00 r01 _ ((S_4.out.allocE [.bool false, .slice none 0 0, .slice none 0 0] 35).drew.lkI HA0.out) HL0.out).mono ?_
           rintro e w4 ⟨v0_t0, v1_t0, v2_t0, v3_t0, v4_t0, v5_t0, rfl, ho, hb⟩
           obtain ⟨A0_t0, n0_t0, c0_t0, rfl⟩ := (ho.at_ 0 rfl).shape3
           obtain ⟨A1_t0, n1_t0, c1_t0, rfl⟩ := (ho.at_ 1 rfl).shape3
           obtain ⟨A2_t0, n2_t0, c2_t0, rfl⟩ := (ho.at_ 2 rfl).shape3
           obtain ⟨A3_t0, n3_t0, c3_t0, rfl⟩ := (ho.at_ 3 rfl).shape3
           obtain ⟨A4_t0, n4_t0, c4_t0, rfl⟩ := (ho.at_ 4 rfl).shape3
           obtain ⟨A5_t0, n5_t0, c5_t0, rfl⟩ := (ho.at_ 5 rfl).shape3
           first | (have S_5 := Lib.hid (S_4.out.drew.rows ho hb)) | (have S_5 := Lib.hid ((S_4.out.allocE [.bool false, .slice none 0 0, .slice none 0 0] 35).drew.rows ho hb))
           clear S_4 ho hb
           have hk_arg0_0_5 := S_5.out.cell 2 0 rfl rfl
           have hk_arg0_1_5 := S_5.out.cell 2 1 rfl rfl
           have hk_arg0_2_5 := S_5.out.cell 2 2 rfl rfl
           have hk_arg0_3_5 := S_5.out.cell 2 3 rfl rfl
           have hk_arg0_4_5 := S_5.out.cell 2 4 rfl rfl
           have hk_arg0_5_5 := S_5.out.cell 2 5 rfl rfl
           have hk_arg0_6_5 := S_5.out.cell 2 6 rfl rfl
           have hk_arg0_7_5 := S_5.out.cell 2 7 rfl rfl
           have hk_arg0_8_5 := S_5.out.cell 2 8 rfl rfl
           have hk_arg0_9_5 := S_5.out.cell 2 9 rfl rfl
           have hk_arg0_10_5 := S_5.out.cell 2 10 rfl rfl
           have hk_arg1_0_5 := S_5.out.cell 1 0 rfl rfl
           have hk_arg1_1_5 := S_5.out.cell 1 1 rfl rfl
           have hk_arg1_2_5 := S_5.out.cell 1 2 rfl rfl
           have hk_arg1_3_5 := S_5.out.cell 1 3 rfl rfl
           have hk_arg1_4_5 := S_5.out.cell 1 4 rfl rfl
           have hk_arg1_5_5 := S_5.out.cell 1 5 rfl rfl
           have hk_arg2_0_5 := S_5.out.cell 0 0 rfl rfl
           have hk_arg2_1_5 := S_5.out.cell 0 1 rfl rfl
           have hk_arg2_2_5 := S_5.out.cell 0 2 rfl rfl
           have hk_arg2_3_5 := S_5.out.cell 0 3 rfl rfl
           have hk_arg2_4_5 := S_5.out.cell 0 4 rfl rfl
           have hk_arg2_5_5 := S_5.out.cell 0 5 rfl rfl)
        | (go_at_call_of 12 (Value.agg #[Value.bool X1.s, x10, x11, Value.bool Y1.s, y10, y11])
           first | refine (toPoint_f X1 Y1 x10 x11 y10 y11 _ (S_5.out.frI HA1.out) (S_5.out.frI HA1b.out) HL1.out).mono ?_ | refine (toPoint_f X1 Y1 x10 x11 y10 y11 _ ((S_5.out.allocE [.bool false, .slice none 0 0, .slice none 0 0] 35).frI HA1.out) ((S_5.out.allocE [.bool false, .slice none 0 0, .slice none 0 0] 35).frI HA1b.out) HL1.out).mono ?_
           rintro e w5 ⟨v0_t1, v1_t1, v2_t1, v3_t1, rfl, ho, hb⟩
           obtain ⟨A0_t1, n0_t1, c0_t1, rfl⟩ := (ho.at_ 0 rfl).shape3
           obtain ⟨A1_t1, n1_t1, c1_t1, rfl⟩ := (ho.at_ 1 rfl).shape3
           obtain ⟨A2_t1, n2_t1, c2_t1, rfl⟩ := (ho.at_ 2 rfl).shape3
           obtain ⟨A3_t1, n3_t1, c3_t1, rfl⟩ := (ho.at_ 3 rfl).shape3
           first | (have S_6 := Lib.hid (S_5.out.rows ho hb)) | (have S_6 := Lib.hid ((S_5.out.allocE [.bool false, .slice none 0 0, .slice none 0 0] 35).rows ho hb))
           clear S_5 ho hb
           have hk_arg0_0_6 := S_6.out.cell 2 0 rfl rfl
           have hk_arg0_1_6 := S_6.out.cell 2 1 rfl rfl
           have hk_arg0_2_6 := S_6.out.cell 2 2 rfl rfl
           have hk_arg0_3_6 := S_6.out.cell 2 3 rfl rfl
           have hk_arg0_4_6 := S_6.out.cell 2 4 rfl rfl
           have hk_arg0_5_6 := S_6.out.cell 2 5 rfl rfl
           have hk_arg0_6_6 := S_6.out.cell 2 6 rfl rfl
           have hk_arg0_7_6 := S_6.out.cell 2 7 rfl rfl
           have hk_arg0_8_6 := S_6.out.cell 2 8 rfl rfl
           have hk_arg0_9_6 := S_6.out.cell 2 9 rfl rfl
           have hk_arg0_10_6 := S_6.out.cell 2 10 rfl rfl
           have hk_arg1_0_6 := S_6.out.cell 1 0 rfl rfl
           have hk_arg1_1_6 := S_6.out.cell 1 1 rfl rfl
           have hk_arg1_2_6 := S_6.out.cell 1 2 rfl rfl
           have hk_arg1_3_6 := S_6.out.cell 1 3 rfl rfl
           have hk_arg1_4_6 := S_6.out.cell 1 4 rfl rfl
           have hk_arg1_5_6 := S_6.out.cell 1 5 rfl rfl
           have hk_arg2_0_6 := S_6.out.cell 0 0 rfl rfl
           have hk_arg2_1_6 := S_6.out.cell 0 1 rfl rfl
           have hk_arg2_2_6 := S_6.out.cell 0 2 rfl rfl
           have hk_arg2_3_6 := S_6.out.cell 0 3 rfl rfl
           have hk_arg2_4_6 := S_6.out.cell 0 4 rfl rfl
           have hk_arg2_5_6 := S_6.out.cell 0 5 rfl rfl)
        | (go_at_call_of 12 (Value.agg #[Value.bool X2.s, x20, x21, Value.bool Y2.s, y20, y21])
           first | refine (toPoint_f X2 Y2 x20 x21 y20 y21 _ (S_6.out.frI HA2.out) (S_6.out.frI HA2b.out) HL2.out).mono ?_ | refine (toPoint_f X2 Y2 x20 x21 y20 y21 _ ((S_6.out.allocE [.bool false, .slice none 0 0, .slice none 0 0] 35).frI HA2.out) ((S_6.out.allocE [.bool false, .slice none 0 0, .slice none 0 0] 35).frI HA2b.out) HL2.out).mono ?_
           rintro e w6 ⟨v0_t2, v1_t2, v2_t2, v3_t2, rfl, ho, hb⟩
           obtain ⟨A0_t2, n0_t2, c0_t2, rfl⟩ := (ho.at_ 0 rfl).shape3
           obtain ⟨A1_t2, n1_t2, c1_t2, rfl⟩ := (ho.at_ 1 rfl).shape3
           obtain ⟨A2_t2, n2_t2, c2_t2, rfl⟩ := (ho.at_ 2 rfl).shape3
           obtain ⟨A3_t2, n3_t2, c3_t2, rfl⟩ := (ho.at_ 3 rfl).shape3
           first | (have S_7 := Lib.hid (S_6.out.rows ho hb)) | (have S_7 := Lib.hid ((S_6.out.allocE [.bool false, .slice none 0 0, .slice none 0 0] 35).rows ho hb))
           clear S_6 ho hb
           have hk_arg0_0_7 := S_7.out.cell 2 0 rfl rfl
           have hk_arg0_1_7 := S_7.out.cell 2 1 rfl rfl
           have hk_arg0_2_7 := S_7.out.cell 2 2 rfl rfl
           have hk_arg0_3_7 := S_7.out.cell 2 3 rfl rfl
           have hk_arg0_4_7 := S_7.out.cell 2 4 rfl rfl
           have hk_arg0_5_7 := S_7.out.cell 2 5 rfl rfl
           have hk_arg0_6_7 := S_7.out.cell 2 6 rfl rfl
           have hk_arg0_7_7 := S_7.out.cell 2 7 rfl rfl
           have hk_arg0_8_7 := S_7.out.cell 2 8 rfl rfl
           have hk_arg0_9_7 := S_7.out.cell 2 9 rfl rfl
           have hk_arg0_10_7 := S_7.out.cell 2 10 rfl rfl
           have hk_arg1_0_7 := S_7.out.cell 1 0 rfl rfl
           have hk_arg1_1_7 := S_7.out.cell 1 1 rfl rfl
           have hk_arg1_2_7 := S_7.out.cell 1 2 rfl rfl
           have hk_arg1_3_7 := S_7.out.cell 1 3 rfl rfl
           have hk_arg1_4_7 := S_7.out.cell 1 4 rfl rfl
           have hk_arg1_5_7 := S_7.out.cell 1 5 rfl rfl
           have hk_arg2_0_7 := S_7.out.cell 0 0 rfl rfl
           have hk_arg2_1_7 := S_7.out.cell 0 1 rfl rfl
           have hk_arg2_2_7 := S_7.out.cell 0 2 rfl rfl
           have hk_arg2_3_7 := S_7.out.cell 0 3 rfl rfl
           have hk_arg2_4_7 := S_7.out.cell 0 4 rfl rfl
           have hk_arg2_5_7 := S_7.out.cell 0 5 rfl rfl)
        | (go_at_call 10
           first | refine (linkEnergy_s A0 B0 P0 Q0 R0 (.slice A0_t0 n0_t0 c0_t0) (.slice A1_t0 n1_t0 c1_t0) (.slice A2_t0 n2_t0 c2_t0) (.slice A3_t0 n3_t0 c3_t0) (.slice A4_t0 n4_t0 c4_t0) (.slice A5_t0 n5_t0 c5_t0) X1 Y1 X2 Y2 (.slice A0_t1 n0_t1 c0_t1) (.slice A1_t1 n1_t1 c1_t1) (.slice A2_t1 n2_t1 c2_t1) (.slice A3_t1 n3_t1 c3_t1) (.slice A0_t2 n0_t2 c0_t2) (.slice A1_t2 n1_t2 c1_t2) (.slice A2_t2 n2_t2 c2_t2) (.slice A3_t2 n3_t2 c3_t2) _ (S_7.out.lk 2 rfl) (S_7.out.pt 1 rfl) (S_7.out.pt 0 rfl)).mono ?_ | refine (linkEnergy_s A0 B0 P0 Q0 R0 (.slice A0_t0 n0_t0 c0_t0) (.slice A1_t0 n1_t0 c1_t0) (.slice A2_t0 n2_t0 c2_t0) (.slice A3_t0 n3_t0 c3_t0) (.slice A4_t0 n4_t0 c4_t0) (.slice A5_t0 n5_t0 c5_t0) X1 Y1 X2 Y2 (.slice A0_t1 n0_t1 c0_t1) (.slice A1_t1 n1_t1 c1_t1) (.slice A2_t1 n2_t1 c2_t1) (.slice A3_t1 n3_t1 c3_t1) (.slice A0_t2 n0_t2 c0_t2) (.slice A1_t2 n1_t2 c1_t2) (.slice A2_t2 n2_t2 c2_t2) (.slice A3_t2 n3_t2 c3_t2) _ ((S_7.out.allocE [.bool false, .slice none 0 0, .slice none 0 0] 35).lk 2 rfl) ((S_7.out.allocE [.bool false, .slice none 0 0, .slice none 0 0] 35).pt 1 rfl) ((S_7.out.allocE [.bool false, .slice none 0 0, .slice none 0 0] 35).pt 0 rfl)).mono ?_
           rintro e w7 ⟨vw, uw, rfl, ho, hb⟩
           obtain ⟨Aw, nw, cw, rfl⟩ := (ho.at_ 0 rfl).shape3
           obtain ⟨Bw, mw, dw, rfl⟩ := (ho.at_ 1 rfl).shape3
           rw [HG.out] at ho ⊢
           first | (have S_8 := Lib.hid (S_7.out.rows ho hb)) | (have S_8 := Lib.hid ((S_7.out.allocE [.bool false, .slice none 0 0, .slice none 0 0] 35).rows ho hb))
           clear S_7 ho hb
           have hk_arg0_0_8 := S_8.out.cell 2 0 rfl rfl
           have hk_arg0_1_8 := S_8.out.cell 2 1 rfl rfl
           have hk_arg0_2_8 := S_8.out.cell 2 2 rfl rfl
           have hk_arg0_3_8 := S_8.out.cell 2 3 rfl rfl
           have hk_arg0_4_8 := S_8.out.cell 2 4 rfl rfl
           have hk_arg0_5_8 := S_8.out.cell 2 5 rfl rfl
           have hk_arg0_6_8 := S_8.out.cell 2 6 rfl rfl
           have hk_arg0_7_8 := S_8.out.cell 2 7 rfl rfl
           have hk_arg0_8_8 := S_8.out.cell 2 8 rfl rfl
           have hk_arg0_9_8 := S_8.out.cell 2 9 rfl rfl
           have hk_arg0_10_8 := S_8.out.cell 2 10 rfl rfl
           have hk_arg1_0_8 := S_8.out.cell 1 0 rfl rfl
           have hk_arg1_1_8 := S_8.out.cell 1 1 rfl rfl
           have hk_arg1_2_8 := S_8.out.cell 1 2 rfl rfl
           have hk_arg1_3_8 := S_8.out.cell 1 3 rfl rfl
           have hk_arg1_4_8 := S_8.out.cell 1 4 rfl rfl
           have hk_arg1_5_8 := S_8.out.cell 1 5 rfl rfl
           have hk_arg2_0_8 := S_8.out.cell 0 0 rfl rfl
           have hk_arg2_1_8 := S_8.out.cell 0 1 rfl rfl
           have hk_arg2_2_8 := S_8.out.cell 0 2 rfl rfl
           have hk_arg2_3_8 := S_8.out.cell 0 3 rfl rfl
           have hk_arg2_4_8 := S_8.out.cell 0 4 rfl rfl
           have hk_arg2_5_8 := S_8.out.cell 0 5 rfl rfl
           try have hkn0 := S_8.out.cell 3 0 rfl rfl
           try have hkf0 := S_8.out.froz 3 0 rfl rfl
           try have hkn1 := S_8.out.cell 3 1 rfl rfl
           try have hkf1 := S_8.out.froz 3 1 rfl rfl
           try have hkn2 := S_8.out.cell 3 2 rfl rfl
           try have hkf2 := S_8.out.froz 3 2 rfl rfl
           try have hnx_arg2 := S_8.out.ne 3 0 rfl rfl (by decide)
           try have hny_arg2 := S_8.out.ne 0 3 rfl rfl (by decide)
           try have hnx_arg1 := S_8.out.ne 3 1 rfl rfl (by decide)
           try have hny_arg1 := S_8.out.ne 1 3 rfl rfl (by decide)
           try have hnx_arg0 := S_8.out.ne 3 2 rfl rfl (by decide)
           try have hny_arg0 := S_8.out.ne 2 3 rfl rfl (by decide)))
    all_goals go_wp2_with fail
    all_goals go_meet
    all_goals refine ⟨_, Aw, nw, cw, Bw, mw, dw, rfl, ?_⟩
    all_goals first
      | exact ((((S_8.out.allocE [.bool G.s, (.slice Aw nw cw), (.slice Bw mw dw)] 35).drop 3).drop 2).drop 1)
      | exact ((((((S_8.out.set 3 0 (.bool G.s) rfl rfl).set 3 1 ((.slice Aw nw cw)) rfl rfl).set 3 2 ((.slice Bw mw dw)) rfl rfl).drop 3).drop 2).drop 1)
  obtain ⟨b_w, Aw, nw, cw, Bw, mw, dw, rfl, hst⟩ := hcut
  have S_9 := Lib.hid hst
  clear hst
  have hne_arg2_w := S_9.out.ne 0 3 rfl rfl (by decide)
  have hne_w_arg2 := S_9.out.ne 3 0 rfl rfl (by decide)
  have hne_arg1_w := S_9.out.ne 1 3 rfl rfl (by decide)
  have hne_w_arg1 := S_9.out.ne 3 1 rfl rfl (by decide)
  have hne_arg0_w := S_9.out.ne 2 3 rfl rfl (by decide)
  have hne_w_arg0 := S_9.out.ne 3 2 rfl rfl (by decide)
  obtain ⟨wnw, hwnw⟩ : ∃ u, wc = u := ⟨_, rfl⟩
  rw [hwnw] at S_9 ⊢
  clear hwnw
  have hk_arg0_0_9 := S_9.out.cell 2 0 rfl rfl
  have hk_arg0_1_9 := S_9.out.cell 2 1 rfl rfl
  have hk_arg0_2_9 := S_9.out.cell 2 2 rfl rfl
  have hk_arg0_3_9 := S_9.out.cell 2 3 rfl rfl
  have hk_arg0_4_9 := S_9.out.cell 2 4 rfl rfl
  have hk_arg0_5_9 := S_9.out.cell 2 5 rfl rfl
  have hk_arg0_6_9 := S_9.out.cell 2 6 rfl rfl
  have hk_arg0_7_9 := S_9.out.cell 2 7 rfl rfl
  have hk_arg0_8_9 := S_9.out.cell 2 8 rfl rfl
  have hk_arg0_9_9 := S_9.out.cell 2 9 rfl rfl
  have hk_arg0_10_9 := S_9.out.cell 2 10 rfl rfl
  go_wp2_with fail
  refine (toLink_f A0 B0 P0 Q0 R0 p00 p01 q00 q01 r00 r01 _ (S_9.out.lkI HA0.out) HL0.out).mono ?_
  rintro e w8 ⟨v0_x0, v1_x0, v2_x0, v3_x0, v4_x0, v5_x0, rfl, ho, hb⟩
  obtain ⟨A0_x0, n0_x0, c0_x0, rfl⟩ := (ho.at_ 0 rfl).shape3
  obtain ⟨A1_x0, n1_x0, c1_x0, rfl⟩ := (ho.at_ 1 rfl).shape3
  obtain ⟨A2_x0, n2_x0, c2_x0, rfl⟩ := (ho.at_ 2 rfl).shape3
  obtain ⟨A3_x0, n3_x0, c3_x0, rfl⟩ := (ho.at_ 3 rfl).shape3
  obtain ⟨A4_x0, n4_x0, c4_x0, rfl⟩ := (ho.at_ 4 rfl).shape3
  obtain ⟨A5_x0, n5_x0, c5_x0, rfl⟩ := (ho.at_ 5 rfl).shape3
  have S_10 := Lib.hid (S_9.out.rows ho hb)
  clear S_9
  clear ho hb
  clear hk_arg0_0_9 hk_arg0_1_9 hk_arg0_2_9 hk_arg0_3_9 hk_arg0_4_9 hk_arg0_5_9 hk_arg0_6_9 hk_arg0_7_9 hk_arg0_8_9 hk_arg0_9_9 hk_arg0_10_9
  have S_11 := Lib.hid (S_10.out.alloc [.int .i64 A0, .int .i64 B0, .bool P0.s, (.slice A0_x0 n0_x0 c0_x0), (.slice A1_x0 n1_x0 c1_x0), .bool Q0.s, (.slice A2_x0 n2_x0 c2_x0), (.slice A3_x0 n3_x0 c3_x0), .bool R0.s, (.slice A4_x0 n4_x0 c4_x0), (.slice A5_x0 n5_x0 c5_x0)] 38)
  clear S_10
  have hne_arg2_x0 := S_11.out.ne 1 0 rfl rfl (by decide)
  have hne_x0_arg2 := S_11.out.ne 0 1 rfl rfl (by decide)
  have hne_arg1_x0 := S_11.out.ne 2 0 rfl rfl (by decide)
  have hne_x0_arg1 := S_11.out.ne 0 2 rfl rfl (by decide)
  have hne_arg0_x0 := S_11.out.ne 3 0 rfl rfl (by decide)
  have hne_x0_arg0 := S_11.out.ne 0 3 rfl rfl (by decide)
  have hne_w_x0 := S_11.out.ne 4 0 rfl rfl (by decide)
  have hne_x0_w := S_11.out.ne 0 4 rfl rfl (by decide)
  have hk_arg1_0_11 := S_11.out.cell 2 0 rfl rfl
  have hk_arg1_1_11 := S_11.out.cell 2 1 rfl rfl
  have hk_arg1_2_11 := S_11.out.cell 2 2 rfl rfl
  have hk_arg1_3_11 := S_11.out.cell 2 3 rfl rfl
  have hk_arg1_4_11 := S_11.out.cell 2 4 rfl rfl
  have hk_arg1_5_11 := S_11.out.cell 2 5 rfl rfl
  go_wp2_with fail
  refine (toPoint_f X1 Y1 x10 x11 y10 y11 _ (S_11.out.frI HA1.out) (S_11.out.frI HA1b.out) HL1.out).mono ?_
  rintro e w9 ⟨v0_x1, v1_x1, v2_x1, v3_x1, rfl, ho, hb⟩
  obtain ⟨A0_x1, n0_x1, c0_x1, rfl⟩ := (ho.at_ 0 rfl).shape3
  obtain ⟨A1_x1, n1_x1, c1_x1, rfl⟩ := (ho.at_ 1 rfl).shape3
  obtain ⟨A2_x1, n2_x1, c2_x1, rfl⟩ := (ho.at_ 2 rfl).shape3
  obtain ⟨A3_x1, n3_x1, c3_x1, rfl⟩ := (ho.at_ 3 rfl).shape3
  have S_12 := Lib.hid (S_11.out.rows ho hb)
  clear S_11
  clear ho hb
  clear hk_arg1_0_11 hk_arg1_1_11 hk_arg1_2_11 hk_arg1_3_11 hk_arg1_4_11 hk_arg1_5_11
  have S_13 := Lib.hid (S_12.out.alloc [.bool X1.s, (.slice A0_x1 n0_x1 c0_x1), (.slice A1_x1 n1_x1 c1_x1), .bool Y1.s, (.slice A2_x1 n2_x1 c2_x1), (.slice A3_x1 n3_x1 c3_x1)] 41)
  clear S_12
  have hne_x0_x1 := S_13.out.ne 1 0 rfl rfl (by decide)
  have hne_x1_x0 := S_13.out.ne 0 1 rfl rfl (by decide)
  have hne_arg2_x1 := S_13.out.ne 2 0 rfl rfl (by decide)
  have hne_x1_arg2 := S_13.out.ne 0 2 rfl rfl (by decide)
  have hne_arg1_x1 := S_13.out.ne 3 0 rfl rfl (by decide)
  have hne_x1_arg1 := S_13.out.ne 0 3 rfl rfl (by decide)
  have hne_arg0_x1 := S_13.out.ne 4 0 rfl rfl (by decide)
  have hne_x1_arg0 := S_13.out.ne 0 4 rfl rfl (by decide)
  have hne_w_x1 := S_13.out.ne 5 0 rfl rfl (by decide)
  have hne_x1_w := S_13.out.ne 0 5 rfl rfl (by decide)
  have hk_arg2_0_13 := S_13.out.cell 2 0 rfl rfl
  have hk_arg2_1_13 := S_13.out.cell 2 1 rfl rfl
  have hk_arg2_2_13 := S_13.out.cell 2 2 rfl rfl
  have hk_arg2_3_13 := S_13.out.cell 2 3 rfl rfl
  have hk_arg2_4_13 := S_13.out.cell 2 4 rfl rfl
  have hk_arg2_5_13 := S_13.out.cell 2 5 rfl rfl
  go_wp2_with fail
  refine (toPoint_f X2 Y2 x20 x21 y20 y21 _ (S_13.out.frI HA2.out) (S_13.out.frI HA2b.out) HL2.out).mono ?_
  rintro e w10 ⟨v0_x2, v1_x2, v2_x2, v3_x2, rfl, ho, hb⟩
  obtain ⟨A0_x2, n0_x2, c0_x2, rfl⟩ := (ho.at_ 0 rfl).shape3
  obtain ⟨A1_x2, n1_x2, c1_x2, rfl⟩ := (ho.at_ 1 rfl).shape3
  obtain ⟨A2_x2, n2_x2, c2_x2, rfl⟩ := (ho.at_ 2 rfl).shape3
  obtain ⟨A3_x2, n3_x2, c3_x2, rfl⟩ := (ho.at_ 3 rfl).shape3
  have S_14 := Lib.hid (S_13.out.rows ho hb)
  clear S_13
  clear ho hb
  clear hk_arg2_0_13 hk_arg2_1_13 hk_arg2_2_13 hk_arg2_3_13 hk_arg2_4_13 hk_arg2_5_13
  have S_15 := Lib.hid (S_14.out.alloc [.bool X2.s, (.slice A0_x2 n0_x2 c0_x2), (.slice A1_x2 n1_x2 c1_x2), .bool Y2.s, (.slice A2_x2 n2_x2 c2_x2), (.slice A3_x2 n3_x2 c3_x2)] 41)
  clear S_14
  have hne_x1_x2 := S_15.out.ne 1 0 rfl rfl (by decide)
  have hne_x2_x1 := S_15.out.ne 0 1 rfl rfl (by decide)
  have hne_x0_x2 := S_15.out.ne 2 0 rfl rfl (by decide)
  have hne_x2_x0 := S_15.out.ne 0 2 rfl rfl (by decide)
  have hne_arg2_x2 := S_15.out.ne 3 0 rfl rfl (by decide)
  have hne_x2_arg2 := S_15.out.ne 0 3 rfl rfl (by decide)
  have hne_arg1_x2 := S_15.out.ne 4 0 rfl rfl (by decide)
  have hne_x2_arg1 := S_15.out.ne 0 4 rfl rfl (by decide)
  have hne_arg0_x2 := S_15.out.ne 5 0 rfl rfl (by decide)
  have hne_x2_arg0 := S_15.out.ne 0 5 rfl rfl (by decide)
  have hne_w_x2 := S_15.out.ne 6 0 rfl rfl (by decide)
  have hne_x2_w := S_15.out.ne 0 6 rfl rfl (by decide)
  have hk_x0_0_15 := S_15.out.cell 2 0 rfl rfl
  have hk_x0_1_15 := S_15.out.cell 2 1 rfl rfl
  have hk_x0_2_15 := S_15.out.cell 2 2 rfl rfl
  have hk_x0_3_15 := S_15.out.cell 2 3 rfl rfl
  have hk_x0_4_15 := S_15.out.cell 2 4 rfl rfl
  have hk_x0_5_15 := S_15.out.cell 2 5 rfl rfl
  have hk_x0_6_15 := S_15.out.cell 2 6 rfl rfl
  have hk_x0_7_15 := S_15.out.cell 2 7 rfl rfl
  have hk_x0_8_15 := S_15.out.cell 2 8 rfl rfl
  have hk_x0_9_15 := S_15.out.cell 2 9 rfl rfl
  have hk_x0_10_15 := S_15.out.cell 2 10 rfl rfl
  have hk_x1_0_15 := S_15.out.cell 1 0 rfl rfl
  have hk_x1_1_15 := S_15.out.cell 1 1 rfl rfl
  have hk_x1_2_15 := S_15.out.cell 1 2 rfl rfl
  have hk_x1_3_15 := S_15.out.cell 1 3 rfl rfl
  have hk_x1_4_15 := S_15.out.cell 1 4 rfl rfl
  have hk_x1_5_15 := S_15.out.cell 1 5 rfl rfl
  have hk_x2_0_15 := S_15.out.cell 0 0 rfl rfl
  have hk_x2_1_15 := S_15.out.cell 0 1 rfl rfl
  have hk_x2_2_15 := S_15.out.cell 0 2 rfl rfl
  have hk_x2_3_15 := S_15.out.cell 0 3 rfl rfl
  have hk_x2_4_15 := S_15.out.cell 0 4 rfl rfl
  have hk_x2_5_15 := S_15.out.cell 0 5 rfl rfl
  go_wp2_with fail
  refine (linkEnergy_i A0 B0 P0 Q0 R0 (.slice A0_x0 n0_x0 c0_x0) (.slice A1_x0 n1_x0 c1_x0) (.slice A2_x0 n2_x0 c2_x0) (.slice A3_x0 n3_x0 c3_x0) (.slice A4_x0 n4_x0 c4_x0) (.slice A5_x0 n5_x0 c5_x0) X1 Y1 X2 Y2 (.slice A0_x1 n0_x1 c0_x1) (.slice A1_x1 n1_x1 c1_x1) (.slice A2_x1 n2_x1 c2_x1) (.slice A3_x1 n3_x1 c3_x1) (.slice A0_x2 n0_x2 c0_x2) (.slice A1_x2 n1_x2 c1_x2) (.slice A2_x2 n2_x2 c2_x2) (.slice A3_x2 n3_x2 c3_x2) _ (S_15.out.lk 2 rfl) (S_15.out.pt 1 rfl) (S_15.out.pt 0 rfl)).mono ?_
  rintro e w11 ⟨vg, ug, rfl, ho, hb⟩
  obtain ⟨Ag, ng, cg, rfl⟩ := (ho.at_ 0 rfl).shape3
  obtain ⟨Bg, mg, dg, rfl⟩ := (ho.at_ 1 rfl).shape3
  have S_16 := Lib.hid (S_15.out.rows ho hb)
  clear S_15
  clear ho hb
  rw [HG.out] at S_16 ⊢
  have S_17 := Lib.hid (S_16.out.alloc [.bool G.s, (.slice Ag ng cg), (.slice Bg mg dg)] 35)
  clear S_16
  have hne_x2_g := S_17.out.ne 1 0 rfl rfl (by decide)
  have hne_g_x2 := S_17.out.ne 0 1 rfl rfl (by decide)
  have hne_x1_g := S_17.out.ne 2 0 rfl rfl (by decide)
  have hne_g_x1 := S_17.out.ne 0 2 rfl rfl (by decide)
  have hne_x0_g := S_17.out.ne 3 0 rfl rfl (by decide)
  have hne_g_x0 := S_17.out.ne 0 3 rfl rfl (by decide)
  have hne_arg2_g := S_17.out.ne 4 0 rfl rfl (by decide)
  have hne_g_arg2 := S_17.out.ne 0 4 rfl rfl (by decide)
  have hne_arg1_g := S_17.out.ne 5 0 rfl rfl (by decide)
  have hne_g_arg1 := S_17.out.ne 0 5 rfl rfl (by decide)
  have hne_arg0_g := S_17.out.ne 6 0 rfl rfl (by decide)
  have hne_g_arg0 := S_17.out.ne 0 6 rfl rfl (by decide)
  have hne_w_g := S_17.out.ne 7 0 rfl rfl (by decide)
  have hne_g_w := S_17.out.ne 0 7 rfl rfl (by decide)
  clear hk_x0_0_15 hk_x0_1_15 hk_x0_2_15 hk_x0_3_15 hk_x0_4_15 hk_x0_5_15 hk_x0_6_15 hk_x0_7_15 hk_x0_8_15 hk_x0_9_15 hk_x0_10_15 hk_x1_0_15 hk_x1_1_15 hk_x1_2_15 hk_x1_3_15 hk_x1_4_15 hk_x1_5_15 hk_x2_0_15 hk_x2_1_15 hk_x2_2_15 hk_x2_3_15 hk_x2_4_15 hk_x2_5_15
  have hk_g_0_17 := S_17.out.cell 0 0 rfl rfl
  have hk_g_1_17 := S_17.out.cell 0 1 rfl rfl
  have hk_g_2_17 := S_17.out.cell 0 2 rfl rfl
  have hk_w_0_17 := S_17.out.cell 7 0 rfl rfl
  have hk_w_1_17 := S_17.out.cell 7 1 rfl rfl
  have hk_w_2_17 := S_17.out.cell 7 2 rfl rfl
  go_wp2_with fail
  refine (eqRat_f G (.slice Ag ng cg) (.slice Bg mg dg) _ (.slice Aw nw cw) (.slice Bw mw dw) (S_17.out.fr 0 0 rfl rfl rfl).i (S_17.out.fr 4 0 rfl rfl rfl).i).mono ?_
  rintro e w12 ⟨rfl, hb⟩
  have S_18 := Lib.hid (S_17.out.call hb)
  clear S_17
  clear hb
  clear hk_g_0_17 hk_g_1_17 hk_g_2_17 hk_w_0_17 hk_w_1_17 hk_w_2_17
  have hk_x0_0_18 := S_18.out.cell 3 0 rfl rfl
  have hk_x0_1_18 := S_18.out.cell 3 1 rfl rfl
  have hk_x0_2_18 := S_18.out.cell 3 2 rfl rfl
  have hk_x0_3_18 := S_18.out.cell 3 3 rfl rfl
  have hk_x0_4_18 := S_18.out.cell 3 4 rfl rfl
  have hk_x0_5_18 := S_18.out.cell 3 5 rfl rfl
  have hk_x0_6_18 := S_18.out.cell 3 6 rfl rfl
  have hk_x0_7_18 := S_18.out.cell 3 7 rfl rfl
  have hk_x0_8_18 := S_18.out.cell 3 8 rfl rfl
  have hk_x0_9_18 := S_18.out.cell 3 9 rfl rfl
  have hk_x0_10_18 := S_18.out.cell 3 10 rfl rfl
  have hk_arg0_0_18 := S_18.out.cell 6 0 rfl rfl
  have hk_arg0_1_18 := S_18.out.cell 6 1 rfl rfl
  have hk_arg0_2_18 := S_18.out.cell 6 2 rfl rfl
  have hk_arg0_3_18 := S_18.out.cell 6 3 rfl rfl
  have hk_arg0_4_18 := S_18.out.cell 6 4 rfl rfl
  have hk_arg0_5_18 := S_18.out.cell 6 5 rfl rfl
  have hk_arg0_6_18 := S_18.out.cell 6 6 rfl rfl
  have hk_arg0_7_18 := S_18.out.cell 6 7 rfl rfl
  have hk_arg0_8_18 := S_18.out.cell 6 8 rfl rfl
  have hk_arg0_9_18 := S_18.out.cell 6 9 rfl rfl
  have hk_arg0_10_18 := S_18.out.cell 6 10 rfl rfl
  go_wp2
  go_region_held3 (fun w' => w'.cell? ⟨w8.heap.size, 0, none⟩ = some (.int .i64 A0) ∧ w'.cell? ⟨w8.heap.size, 1, none⟩ = some (.int .i64 B0) ∧ w'.cell? ⟨w8.heap.size, 2, none⟩ = some (.bool P0.s) ∧ w'.cell? ⟨w8.heap.size, 3, none⟩ = some ((.slice A0_x0 n0_x0 c0_x0)) ∧ w'.cell? ⟨w8.heap.size, 4, none⟩ = some ((.slice A1_x0 n1_x0 c1_x0)) ∧ w'.cell? ⟨w8.heap.size, 5, none⟩ = some (.bool Q0.s) ∧ w'.cell? ⟨w8.heap.size, 6, none⟩ = some ((.slice A2_x0 n2_x0 c2_x0)) ∧ w'.cell? ⟨w8.heap.size, 7, none⟩ = some ((.slice A3_x0 n3_x0 c3_x0)) ∧ w'.cell? ⟨w8.heap.size, 8, none⟩ = some (.bool R0.s) ∧ w'.cell? ⟨w8.heap.size, 9, none⟩ = some ((.slice A4_x0 n4_x0 c4_x0)) ∧ w'.cell? ⟨w8.heap.size, 10, none⟩ = some ((.slice A5_x0 n5_x0 c5_x0)) ∧ w'.cell? ⟨W.heap.size, 0, none⟩ = some (.int .i64 A0) ∧ w'.cell? ⟨W.heap.size, 1, none⟩ = some (.int .i64 B0) ∧ w'.cell? ⟨W.heap.size, 2, none⟩ = some (.bool P0.s) ∧ w'.cell? ⟨W.heap.size, 3, none⟩ = some (p00) ∧ w'.cell? ⟨W.heap.size, 4, none⟩ = some (p01) ∧ w'.cell? ⟨W.heap.size, 5, none⟩ = some (.bool Q0.s) ∧ w'.cell? ⟨W.heap.size, 6, none⟩ = some (q00) ∧ w'.cell? ⟨W.heap.size, 7, none⟩ = some (q01) ∧ w'.cell? ⟨W.heap.size, 8, none⟩ = some (.bool R0.s) ∧ w'.cell? ⟨W.heap.size, 9, none⟩ = some (r00) ∧ w'.cell? ⟨W.heap.size, 10, none⟩ = some (r01)) (go_keep)
    (first
      | (go_at_call_of 11 (Value.agg #[Value.int .i64 A0, Value.int .i64 B0, Value.bool P0.s, p00, p01, Value.bool Q0.s, q00, q01, Value.bool R0.s, r00, r01])
         refine (toLink_f A0 B0 P0 Q0 R0 p00 p01 q00 q01 r00 r01 _ (S_18.out.drew.lkI HA0.out) HL0.out).mono ?_
         rintro e w13 ⟨v0_tt0, v1_tt0, v2_tt0, v3_tt0, v4_tt0, v5_tt0, rfl, ho, hb⟩
         obtain ⟨A0_tt0, n0_tt0, c0_tt0, rfl⟩ := (ho.at_ 0 rfl).shape3
         obtain ⟨A1_tt0, n1_tt0, c1_tt0, rfl⟩ := (ho.at_ 1 rfl).shape3
         obtain ⟨A2_tt0, n2_tt0, c2_tt0, rfl⟩ := (ho.at_ 2 rfl).shape3
         obtain ⟨A3_tt0, n3_tt0, c3_tt0, rfl⟩ := (ho.at_ 3 rfl).shape3
         obtain ⟨A4_tt0, n4_tt0, c4_tt0, rfl⟩ := (ho.at_ 4 rfl).shape3
         obtain ⟨A5_tt0, n5_tt0, c5_tt0, rfl⟩ := (ho.at_ 5 rfl).shape3
         have S_19 := Lib.hid (S_18.out.drew.rows ho hb)
         clear S_18 ho hb
         have hk_x0_0_19 := S_19.out.cell 3 0 rfl rfl
         have hk_x0_1_19 := S_19.out.cell 3 1 rfl rfl
         have hk_x0_2_19 := S_19.out.cell 3 2 rfl rfl
         have hk_x0_3_19 := S_19.out.cell 3 3 rfl rfl
         have hk_x0_4_19 := S_19.out.cell 3 4 rfl rfl
         have hk_x0_5_19 := S_19.out.cell 3 5 rfl rfl
         have hk_x0_6_19 := S_19.out.cell 3 6 rfl rfl
         have hk_x0_7_19 := S_19.out.cell 3 7 rfl rfl
         have hk_x0_8_19 := S_19.out.cell 3 8 rfl rfl
         have hk_x0_9_19 := S_19.out.cell 3 9 rfl rfl
         have hk_x0_10_19 := S_19.out.cell 3 10 rfl rfl
         have hk_arg0_0_19 := S_19.out.cell 6 0 rfl rfl
         have hk_arg0_1_19 := S_19.out.cell 6 1 rfl rfl
         have hk_arg0_2_19 := S_19.out.cell 6 2 rfl rfl
         have hk_arg0_3_19 := S_19.out.cell 6 3 rfl rfl
         have hk_arg0_4_19 := S_19.out.cell 6 4 rfl rfl
         have hk_arg0_5_19 := S_19.out.cell 6 5 rfl rfl
         have hk_arg0_6_19 := S_19.out.cell 6 6 rfl rfl
         have hk_arg0_7_19 := S_19.out.cell 6 7 rfl rfl
         have hk_arg0_8_19 := S_19.out.cell 6 8 rfl rfl
         have hk_arg0_9_19 := S_19.out.cell 6 9 rfl rfl
         have hk_arg0_10_19 := S_19.out.cell 6 10 rfl rfl)
      | (go_at_call 15
         refine (eqLink_f A0 B0 P0 Q0 R0 (.slice A0_x0 n0_x0 c0_x0) (.slice A1_x0 n1_x0 c1_x0) (.slice A2_x0 n2_x0 c2_x0) (.slice A3_x0 n3_x0 c3_x0) (.slice A4_x0 n4_x0 c4_x0) (.slice A5_x0 n5_x0 c5_x0) (.slice A0_tt0 n0_tt0 c0_tt0) (.slice A1_tt0 n1_tt0 c1_tt0) (.slice A2_tt0 n2_tt0 c2_tt0) (.slice A3_tt0 n3_tt0 c3_tt0) (.slice A4_tt0 n4_tt0 c4_tt0) (.slice A5_tt0 n5_tt0 c5_tt0) _ (S_19.out.lk 4 rfl).i (S_19.out.lk 0 rfl).i).mono ?_
         rintro e w14 ⟨rfl, hb⟩
         have S_20 := Lib.hid (S_19.out.call hb)
         clear S_19 hb
         have hk_x0_0_20 := S_20.out.cell 3 0 rfl rfl
         have hk_x0_1_20 := S_20.out.cell 3 1 rfl rfl
         have hk_x0_2_20 := S_20.out.cell 3 2 rfl rfl
         have hk_x0_3_20 := S_20.out.cell 3 3 rfl rfl
         have hk_x0_4_20 := S_20.out.cell 3 4 rfl rfl
         have hk_x0_5_20 := S_20.out.cell 3 5 rfl rfl
         have hk_x0_6_20 := S_20.out.cell 3 6 rfl rfl
         have hk_x0_7_20 := S_20.out.cell 3 7 rfl rfl
         have hk_x0_8_20 := S_20.out.cell 3 8 rfl rfl
         have hk_x0_9_20 := S_20.out.cell 3 9 rfl rfl
         have hk_x0_10_20 := S_20.out.cell 3 10 rfl rfl
         have hk_arg0_0_20 := S_20.out.cell 6 0 rfl rfl
         have hk_arg0_1_20 := S_20.out.cell 6 1 rfl rfl
         have hk_arg0_2_20 := S_20.out.cell 6 2 rfl rfl
         have hk_arg0_3_20 := S_20.out.cell 6 3 rfl rfl
         have hk_arg0_4_20 := S_20.out.cell 6 4 rfl rfl
         have hk_arg0_5_20 := S_20.out.cell 6 5 rfl rfl
         have hk_arg0_6_20 := S_20.out.cell 6 6 rfl rfl
         have hk_arg0_7_20 := S_20.out.cell 6 7 rfl rfl
         have hk_arg0_8_20 := S_20.out.cell 6 8 rfl rfl
         have hk_arg0_9_20 := S_20.out.cell 6 9 rfl rfl
         have hk_arg0_10_20 := S_20.out.cell 6 10 rfl rfl))
  have S_21 := Lib.hid (S_20.out.drop 0)
  clear S_20
  have hk_x1_0_21 := S_21.out.cell 2 0 rfl rfl
  have hk_x1_1_21 := S_21.out.cell 2 1 rfl rfl
  have hk_x1_2_21 := S_21.out.cell 2 2 rfl rfl
  have hk_x1_3_21 := S_21.out.cell 2 3 rfl rfl
  have hk_x1_4_21 := S_21.out.cell 2 4 rfl rfl
  have hk_x1_5_21 := S_21.out.cell 2 5 rfl rfl
  have hk_arg1_0_21 := S_21.out.cell 5 0 rfl rfl
  have hk_arg1_1_21 := S_21.out.cell 5 1 rfl rfl
  have hk_arg1_2_21 := S_21.out.cell 5 2 rfl rfl
  have hk_arg1_3_21 := S_21.out.cell 5 3 rfl rfl
  have hk_arg1_4_21 := S_21.out.cell 5 4 rfl rfl
  have hk_arg1_5_21 := S_21.out.cell 5 5 rfl rfl
  go_wp2
  go_region_held3 (fun w' => w'.cell? ⟨w9.heap.size, 0, none⟩ = some (.bool X1.s) ∧ w'.cell? ⟨w9.heap.size, 1, none⟩ = some ((.slice A0_x1 n0_x1 c0_x1)) ∧ w'.cell? ⟨w9.heap.size, 2, none⟩ = some ((.slice A1_x1 n1_x1 c1_x1)) ∧ w'.cell? ⟨w9.heap.size, 3, none⟩ = some (.bool Y1.s) ∧ w'.cell? ⟨w9.heap.size, 4, none⟩ = some ((.slice A2_x1 n2_x1 c2_x1)) ∧ w'.cell? ⟨w9.heap.size, 5, none⟩ = some ((.slice A3_x1 n3_x1 c3_x1)) ∧ w'.cell? ⟨W.heap.size + 1, 0, none⟩ = some (.bool X1.s) ∧ w'.cell? ⟨W.heap.size + 1, 1, none⟩ = some (x10) ∧ w'.cell? ⟨W.heap.size + 1, 2, none⟩ = some (x11) ∧ w'.cell? ⟨W.heap.size + 1, 3, none⟩ = some (.bool Y1.s) ∧ w'.cell? ⟨W.heap.size + 1, 4, none⟩ = some (y10) ∧ w'.cell? ⟨W.heap.size + 1, 5, none⟩ = some (y11)) (go_keep)
    (first
      | (go_at_call_of 12 (Value.agg #[Value.bool X1.s, x10, x11, Value.bool Y1.s, y10, y11])
         refine (toPoint_f X1 Y1 x10 x11 y10 y11 _ (S_21.out.drew.frI HA1.out) (S_21.out.drew.frI HA1b.out) HL1.out).mono ?_
         rintro e w15 ⟨v0_tt1, v1_tt1, v2_tt1, v3_tt1, rfl, ho, hb⟩
         obtain ⟨A0_tt1, n0_tt1, c0_tt1, rfl⟩ := (ho.at_ 0 rfl).shape3
         obtain ⟨A1_tt1, n1_tt1, c1_tt1, rfl⟩ := (ho.at_ 1 rfl).shape3
         obtain ⟨A2_tt1, n2_tt1, c2_tt1, rfl⟩ := (ho.at_ 2 rfl).shape3
         obtain ⟨A3_tt1, n3_tt1, c3_tt1, rfl⟩ := (ho.at_ 3 rfl).shape3
         have S_22 := Lib.hid (S_21.out.drew.rows ho hb)
         clear S_21 ho hb
         have hk_x1_0_22 := S_22.out.cell 2 0 rfl rfl
         have hk_x1_1_22 := S_22.out.cell 2 1 rfl rfl
         have hk_x1_2_22 := S_22.out.cell 2 2 rfl rfl
         have hk_x1_3_22 := S_22.out.cell 2 3 rfl rfl
         have hk_x1_4_22 := S_22.out.cell 2 4 rfl rfl
         have hk_x1_5_22 := S_22.out.cell 2 5 rfl rfl
         have hk_arg1_0_22 := S_22.out.cell 5 0 rfl rfl
         have hk_arg1_1_22 := S_22.out.cell 5 1 rfl rfl
         have hk_arg1_2_22 := S_22.out.cell 5 2 rfl rfl
         have hk_arg1_3_22 := S_22.out.cell 5 3 rfl rfl
         have hk_arg1_4_22 := S_22.out.cell 5 4 rfl rfl
         have hk_arg1_5_22 := S_22.out.cell 5 5 rfl rfl)
      | (go_at_call 16
         refine (eqPoint_f X1 Y1 (.slice A0_x1 n0_x1 c0_x1) (.slice A1_x1 n1_x1 c1_x1) (.slice A2_x1 n2_x1 c2_x1) (.slice A3_x1 n3_x1 c3_x1) (.slice A0_tt1 n0_tt1 c0_tt1) (.slice A1_tt1 n1_tt1 c1_tt1) (.slice A2_tt1 n2_tt1 c2_tt1) (.slice A3_tt1 n3_tt1 c3_tt1) _ (S_22.out.pt 3 rfl).i (S_22.out.pt 0 rfl).i).mono ?_
         rintro e w16 ⟨rfl, hb⟩
         have S_23 := Lib.hid (S_22.out.call hb)
         clear S_22 hb
         have hk_x1_0_23 := S_23.out.cell 2 0 rfl rfl
         have hk_x1_1_23 := S_23.out.cell 2 1 rfl rfl
         have hk_x1_2_23 := S_23.out.cell 2 2 rfl rfl
         have hk_x1_3_23 := S_23.out.cell 2 3 rfl rfl
         have hk_x1_4_23 := S_23.out.cell 2 4 rfl rfl
         have hk_x1_5_23 := S_23.out.cell 2 5 rfl rfl
         have hk_arg1_0_23 := S_23.out.cell 5 0 rfl rfl
         have hk_arg1_1_23 := S_23.out.cell 5 1 rfl rfl
         have hk_arg1_2_23 := S_23.out.cell 5 2 rfl rfl
         have hk_arg1_3_23 := S_23.out.cell 5 3 rfl rfl
         have hk_arg1_4_23 := S_23.out.cell 5 4 rfl rfl
         have hk_arg1_5_23 := S_23.out.cell 5 5 rfl rfl))
  have S_24 := Lib.hid (S_23.out.drop 0)
  clear S_23
  have hk_x2_0_24 := S_24.out.cell 1 0 rfl rfl
  have hk_x2_1_24 := S_24.out.cell 1 1 rfl rfl
  have hk_x2_2_24 := S_24.out.cell 1 2 rfl rfl
  have hk_x2_3_24 := S_24.out.cell 1 3 rfl rfl
  have hk_x2_4_24 := S_24.out.cell 1 4 rfl rfl
  have hk_x2_5_24 := S_24.out.cell 1 5 rfl rfl
  have hk_arg2_0_24 := S_24.out.cell 4 0 rfl rfl
  have hk_arg2_1_24 := S_24.out.cell 4 1 rfl rfl
  have hk_arg2_2_24 := S_24.out.cell 4 2 rfl rfl
  have hk_arg2_3_24 := S_24.out.cell 4 3 rfl rfl
  have hk_arg2_4_24 := S_24.out.cell 4 4 rfl rfl
  have hk_arg2_5_24 := S_24.out.cell 4 5 rfl rfl
  go_wp2
  go_region_held3 (fun w' => w'.cell? ⟨w10.heap.size, 0, none⟩ = some (.bool X2.s) ∧ w'.cell? ⟨w10.heap.size, 1, none⟩ = some ((.slice A0_x2 n0_x2 c0_x2)) ∧ w'.cell? ⟨w10.heap.size, 2, none⟩ = some ((.slice A1_x2 n1_x2 c1_x2)) ∧ w'.cell? ⟨w10.heap.size, 3, none⟩ = some (.bool Y2.s) ∧ w'.cell? ⟨w10.heap.size, 4, none⟩ = some ((.slice A2_x2 n2_x2 c2_x2)) ∧ w'.cell? ⟨w10.heap.size, 5, none⟩ = some ((.slice A3_x2 n3_x2 c3_x2)) ∧ w'.cell? ⟨W.heap.size + 1 + 1, 0, none⟩ = some (.bool X2.s) ∧ w'.cell? ⟨W.heap.size + 1 + 1, 1, none⟩ = some (x20) ∧ w'.cell? ⟨W.heap.size + 1 + 1, 2, none⟩ = some (x21) ∧ w'.cell? ⟨W.heap.size + 1 + 1, 3, none⟩ = some (.bool Y2.s) ∧ w'.cell? ⟨W.heap.size + 1 + 1, 4, none⟩ = some (y20) ∧ w'.cell? ⟨W.heap.size + 1 + 1, 5, none⟩ = some (y21)) (go_keep)
    (first
      | (go_at_call_of 12 (Value.agg #[Value.bool X2.s, x20, x21, Value.bool Y2.s, y20, y21])
         refine (toPoint_f X2 Y2 x20 x21 y20 y21 _ (S_24.out.drew.frI HA2.out) (S_24.out.drew.frI HA2b.out) HL2.out).mono ?_
         rintro e w17 ⟨v0_tt2, v1_tt2, v2_tt2, v3_tt2, rfl, ho, hb⟩
         obtain ⟨A0_tt2, n0_tt2, c0_tt2, rfl⟩ := (ho.at_ 0 rfl).shape3
         obtain ⟨A1_tt2, n1_tt2, c1_tt2, rfl⟩ := (ho.at_ 1 rfl).shape3
         obtain ⟨A2_tt2, n2_tt2, c2_tt2, rfl⟩ := (ho.at_ 2 rfl).shape3
         obtain ⟨A3_tt2, n3_tt2, c3_tt2, rfl⟩ := (ho.at_ 3 rfl).shape3
         have S_25 := Lib.hid (S_24.out.drew.rows ho hb)
         clear S_24 ho hb
         have hk_x2_0_25 := S_25.out.cell 1 0 rfl rfl
         have hk_x2_1_25 := S_25.out.cell 1 1 rfl rfl
         have hk_x2_2_25 := S_25.out.cell 1 2 rfl rfl
         have hk_x2_3_25 := S_25.out.cell 1 3 rfl rfl
         have hk_x2_4_25 := S_25.out.cell 1 4 rfl rfl
         have hk_x2_5_25 := S_25.out.cell 1 5 rfl rfl
         have hk_arg2_0_25 := S_25.out.cell 4 0 rfl rfl
         have hk_arg2_1_25 := S_25.out.cell 4 1 rfl rfl
         have hk_arg2_2_25 := S_25.out.cell 4 2 rfl rfl
         have hk_arg2_3_25 := S_25.out.cell 4 3 rfl rfl
         have hk_arg2_4_25 := S_25.out.cell 4 4 rfl rfl
         have hk_arg2_5_25 := S_25.out.cell 4 5 rfl rfl)
      | (go_at_call 16
         refine (eqPoint_f X2 Y2 (.slice A0_x2 n0_x2 c0_x2) (.slice A1_x2 n1_x2 c1_x2) (.slice A2_x2 n2_x2 c2_x2) (.slice A3_x2 n3_x2 c3_x2) (.slice A0_tt2 n0_tt2 c0_tt2) (.slice A1_tt2 n1_tt2 c1_tt2) (.slice A2_tt2 n2_tt2 c2_tt2) (.slice A3_tt2 n3_tt2 c3_tt2) _ (S_25.out.pt 2 rfl).i (S_25.out.pt 0 rfl).i).mono ?_
         rintro e w18 ⟨rfl, hb⟩
         have S_26 := Lib.hid (S_25.out.call hb)
         clear S_25 hb
         have hk_x2_0_26 := S_26.out.cell 1 0 rfl rfl
         have hk_x2_1_26 := S_26.out.cell 1 1 rfl rfl
         have hk_x2_2_26 := S_26.out.cell 1 2 rfl rfl
         have hk_x2_3_26 := S_26.out.cell 1 3 rfl rfl
         have hk_x2_4_26 := S_26.out.cell 1 4 rfl rfl
         have hk_x2_5_26 := S_26.out.cell 1 5 rfl rfl
         have hk_arg2_0_26 := S_26.out.cell 4 0 rfl rfl
         have hk_arg2_1_26 := S_26.out.cell 4 1 rfl rfl
         have hk_arg2_2_26 := S_26.out.cell 4 2 rfl rfl
         have hk_arg2_3_26 := S_26.out.cell 4 3 rfl rfl
         have hk_arg2_4_26 := S_26.out.cell 4 4 rfl rfl
         have hk_arg2_5_26 := S_26.out.cell 4 5 rfl rfl))
  have S_27 := Lib.hid (S_26.out.drop 0)
  clear S_26
  have hk_x0_0_27 := S_27.out.cell 3 0 rfl rfl
  have hk_x0_1_27 := S_27.out.cell 3 1 rfl rfl
  have hk_x0_2_27 := S_27.out.cell 3 2 rfl rfl
  have hk_x0_3_27 := S_27.out.cell 3 3 rfl rfl
  have hk_x0_4_27 := S_27.out.cell 3 4 rfl rfl
  have hk_x0_5_27 := S_27.out.cell 3 5 rfl rfl
  have hk_x0_6_27 := S_27.out.cell 3 6 rfl rfl
  have hk_x0_7_27 := S_27.out.cell 3 7 rfl rfl
  have hk_x0_8_27 := S_27.out.cell 3 8 rfl rfl
  have hk_x0_9_27 := S_27.out.cell 3 9 rfl rfl
  have hk_x0_10_27 := S_27.out.cell 3 10 rfl rfl
  go_wp2_with fail
  obtain ⟨q0, hq0⟩ : ∃ z, lenL [((.slice A0_x0 n0_x0 c0_x0), ints P0.xs), ((.slice A1_x0 n1_x0 c1_x0), ints P0.ys), ((.slice A2_x0 n2_x0 c2_x0), ints Q0.xs), ((.slice A3_x0 n3_x0 c3_x0), ints Q0.ys), ((.slice A4_x0 n4_x0 c4_x0), ints R0.xs), ((.slice A5_x0 n5_x0 c5_x0), ints R0.ys)] = z := ⟨_, rfl⟩
  have hbq0 : q0 ≤ 2097152 := by rw [← hq0]; simp only [lenL, ints_len]; have h9 := HL0.out; simp only [Fr.len] at h9; omega
  have Hq0 := Lib.hid hq0
  clear hq0
  refine (markLink_f A0 B0 P0.s Q0.s R0.s (.slice A0_x0 n0_x0 c0_x0) (.slice A1_x0 n1_x0 c1_x0) (.slice A2_x0 n2_x0 c2_x0) (.slice A3_x0 n3_x0 c3_x0) (.slice A4_x0 n4_x0 c4_x0) (.slice A5_x0 n5_x0 c5_x0) (ints P0.xs) (ints P0.ys) (ints Q0.xs) (ints Q0.ys) (ints R0.xs) (ints R0.ys) _ (1) W.heap.size _ (by first | rfl | omega) (S_27.out.own 3 rfl) (by rw [show lenL _ = q0 from Hq0.out]; omega)).mono ?_
  rintro e w19 ⟨rfl, ho, ht⟩
  rw [show lenL _ = q0 from Hq0.out]
  have S_28 := Lib.hid (S_27.out.marked 3 rfl ho ht)
  clear S_27
  clear ho ht
  clear hk_x0_0_27 hk_x0_1_27 hk_x0_2_27 hk_x0_3_27 hk_x0_4_27 hk_x0_5_27 hk_x0_6_27 hk_x0_7_27 hk_x0_8_27 hk_x0_9_27 hk_x0_10_27
  have hk_x1_0_28 := S_28.out.cell 2 0 rfl rfl
  have hk_x1_1_28 := S_28.out.cell 2 1 rfl rfl
  have hk_x1_2_28 := S_28.out.cell 2 2 rfl rfl
  have hk_x1_3_28 := S_28.out.cell 2 3 rfl rfl
  have hk_x1_4_28 := S_28.out.cell 2 4 rfl rfl
  have hk_x1_5_28 := S_28.out.cell 2 5 rfl rfl
  go_wp2_with fail
  obtain ⟨q1, hq1⟩ : ∃ z, lenL [((.slice A0_x1 n0_x1 c0_x1), ints X1.xs), ((.slice A1_x1 n1_x1 c1_x1), ints X1.ys), ((.slice A2_x1 n2_x1 c2_x1), ints Y1.xs), ((.slice A3_x1 n3_x1 c3_x1), ints Y1.ys)] = z := ⟨_, rfl⟩
  have hbq1 : q1 ≤ 2097152 := by rw [← hq1]; simp only [lenL, ints_len]; have h9 := HL1.out; simp only [Fr.len] at h9; omega
  have Hq1 := Lib.hid hq1
  clear hq1
  refine (markPoint_f X1.s Y1.s (.slice A0_x1 n0_x1 c0_x1) (.slice A1_x1 n1_x1 c1_x1) (.slice A2_x1 n2_x1 c2_x1) (.slice A3_x1 n3_x1 c3_x1) (ints X1.xs) (ints X1.ys) (ints Y1.xs) (ints Y1.ys) _ (1 + q0) W.heap.size _ (by first | rfl | omega) (S_28.out.own 2 rfl) (by rw [show lenL _ = q1 from Hq1.out]; omega)).mono ?_
  rintro e w20 ⟨rfl, ho, ht⟩
  rw [show lenL _ = q1 from Hq1.out]
  have S_29 := Lib.hid (S_28.out.marked 2 rfl ho ht)
  clear S_28
  clear ho ht
  clear hk_x1_0_28 hk_x1_1_28 hk_x1_2_28 hk_x1_3_28 hk_x1_4_28 hk_x1_5_28
  have hk_x2_0_29 := S_29.out.cell 1 0 rfl rfl
  have hk_x2_1_29 := S_29.out.cell 1 1 rfl rfl
  have hk_x2_2_29 := S_29.out.cell 1 2 rfl rfl
  have hk_x2_3_29 := S_29.out.cell 1 3 rfl rfl
  have hk_x2_4_29 := S_29.out.cell 1 4 rfl rfl
  have hk_x2_5_29 := S_29.out.cell 1 5 rfl rfl
  go_wp2_with fail
  obtain ⟨q2, hq2⟩ : ∃ z, lenL [((.slice A0_x2 n0_x2 c0_x2), ints X2.xs), ((.slice A1_x2 n1_x2 c1_x2), ints X2.ys), ((.slice A2_x2 n2_x2 c2_x2), ints Y2.xs), ((.slice A3_x2 n3_x2 c3_x2), ints Y2.ys)] = z := ⟨_, rfl⟩
  have hbq2 : q2 ≤ 2097152 := by rw [← hq2]; simp only [lenL, ints_len]; have h9 := HL2.out; simp only [Fr.len] at h9; omega
  have Hq2 := Lib.hid hq2
  clear hq2
  refine (markPoint_f X2.s Y2.s (.slice A0_x2 n0_x2 c0_x2) (.slice A1_x2 n1_x2 c1_x2) (.slice A2_x2 n2_x2 c2_x2) (.slice A3_x2 n3_x2 c3_x2) (ints X2.xs) (ints X2.ys) (ints Y2.xs) (ints Y2.ys) _ (1 + q0 + q1) W.heap.size _ (by first | rfl | omega) (S_29.out.own 1 rfl) (by rw [show lenL _ = q2 from Hq2.out]; omega)).mono ?_
  rintro e w21 ⟨rfl, ho, ht⟩
  rw [show lenL _ = q2 from Hq2.out]
  have S_30 := Lib.hid (S_29.out.marked 1 rfl ho ht)
  clear S_29
  clear ho ht
  have S_31 := Lib.hid (S_30.out.drop 3)
  clear S_30
  have S_32 := Lib.hid (S_31.out.drop 2)
  clear S_31
  have S_33 := Lib.hid (S_32.out.drop 1)
  clear S_32
  clear hk_x2_0_29 hk_x2_1_29 hk_x2_2_29 hk_x2_3_29 hk_x2_4_29 hk_x2_5_29
  have hk_g_0_33 := S_33.out.cell 0 0 rfl rfl
  have hk_g_1_33 := S_33.out.cell 0 1 rfl rfl
  have hk_g_2_33 := S_33.out.cell 0 2 rfl rfl
  have hk_w_0_33 := S_33.out.cell 7 0 rfl rfl
  have hk_w_1_33 := S_33.out.cell 7 1 rfl rfl
  have hk_w_2_33 := S_33.out.cell 7 2 rfl rfl
  go_wp2_with fail
  refine (eqRat_f G (.slice Ag ng cg) (.slice Bg mg dg) _ (.slice Aw nw cw) (.slice Bw mw dw) (S_33.out.fr 0 0 rfl rfl rfl).i (S_33.out.fr 1 0 rfl rfl rfl).i).mono ?_
  rintro e w22 ⟨rfl, hb⟩
  have S_34 := Lib.hid (S_33.out.call hb)
  clear S_33
  clear hb
  clear hk_g_0_33 hk_g_1_33 hk_g_2_33 hk_w_0_33 hk_w_1_33 hk_w_2_33
  have hk_g_0_34 := S_34.out.cell 0 0 rfl rfl
  have hk_g_1_34 := S_34.out.cell 0 1 rfl rfl
  have hk_g_2_34 := S_34.out.cell 0 2 rfl rfl
  go_wp2_with fail
  obtain ⟨m0, hm0⟩ : ∃ z, lenL [((.slice Ag ng cg), ints G.xs), ((.slice Bg mg dg), ints G.ys)] = z := ⟨_, rfl⟩
  have hbm0 : m0 ≤ 2097152 := by rw [← hm0]; simp only [lenL, ints_len]; have h9 := hlen; simp only [Fr.len] at h9; omega
  have Hm0 := Lib.hid hm0
  clear hm0
  refine (markRat_f (.slice Ag ng cg) (.slice Bg mg dg) _ G.s (ints G.xs) (ints G.ys) (1) W.heap.size _ (by first | rfl | omega) (S_34.out.own 0 rfl) (by rw [show lenL _ = m0 from Hm0.out]; omega)).mono ?_
  rintro e w23 ⟨rfl, ho, ht⟩
  rw [show lenL _ = m0 from Hm0.out]
  have S_35 := Lib.hid (S_34.out.marked 0 rfl ho ht)
  clear S_34
  clear ho ht
  clear hk_g_0_34 hk_g_1_34 hk_g_2_34
  have hk_g_0_35 := S_35.out.cell 0 0 rfl rfl
  have hk_g_1_35 := S_35.out.cell 0 1 rfl rfl
  have hk_g_2_35 := S_35.out.cell 0 2 rfl rfl
  go_wp2_with fail
  refine (heldRat_f (.slice Ag ng cg) (.slice Bg mg dg) _ G.s (ints G.xs) (ints G.ys) (1) W.heap.size _ (by first | rfl | omega) (S_35.out.own 0 rfl) (by rw [show lenL _ = m0 from Hm0.out]; omega)).mono ?_
  rintro e w24 ⟨rfl, hb⟩
  rw [show lenL _ = m0 from Hm0.out]
  have S_36 := Lib.hid (S_35.out.call hb)
  clear S_35
  clear hb
  clear hk_g_0_35 hk_g_1_35 hk_g_2_35
  have hk_arg0_0_36 := S_36.out.cell 6 0 rfl rfl
  have hk_arg0_1_36 := S_36.out.cell 6 1 rfl rfl
  have hk_arg0_2_36 := S_36.out.cell 6 2 rfl rfl
  have hk_arg0_3_36 := S_36.out.cell 6 3 rfl rfl
  have hk_arg0_4_36 := S_36.out.cell 6 4 rfl rfl
  have hk_arg0_5_36 := S_36.out.cell 6 5 rfl rfl
  have hk_arg0_6_36 := S_36.out.cell 6 6 rfl rfl
  have hk_arg0_7_36 := S_36.out.cell 6 7 rfl rfl
  have hk_arg0_8_36 := S_36.out.cell 6 8 rfl rfl
  have hk_arg0_9_36 := S_36.out.cell 6 9 rfl rfl
  have hk_arg0_10_36 := S_36.out.cell 6 10 rfl rfl
  have hk_arg1_0_36 := S_36.out.cell 5 0 rfl rfl
  have hk_arg1_1_36 := S_36.out.cell 5 1 rfl rfl
  have hk_arg1_2_36 := S_36.out.cell 5 2 rfl rfl
  have hk_arg1_3_36 := S_36.out.cell 5 3 rfl rfl
  have hk_arg1_4_36 := S_36.out.cell 5 4 rfl rfl
  have hk_arg1_5_36 := S_36.out.cell 5 5 rfl rfl
  have hk_arg2_0_36 := S_36.out.cell 4 0 rfl rfl
  have hk_arg2_1_36 := S_36.out.cell 4 1 rfl rfl
  have hk_arg2_2_36 := S_36.out.cell 4 2 rfl rfl
  have hk_arg2_3_36 := S_36.out.cell 4 3 rfl rfl
  have hk_arg2_4_36 := S_36.out.cell 4 4 rfl rfl
  have hk_arg2_5_36 := S_36.out.cell 4 5 rfl rfl
  go_upto_region 38 with fail
  go_cut [16] (fun ptr wx => ∃ blk Ah nh ch Bh mh dh, ptr = .pointer (some ⟨blk, 0, none⟩) ∧ St W wx [(w11.heap.size, [.bool G.s, (.slice Ag ng cg), (.slice Bg mg dg)]), (w10.heap.size, [.bool X2.s, (.slice A0_x2 n0_x2 c0_x2), (.slice A1_x2 n1_x2 c1_x2), .bool Y2.s, (.slice A2_x2 n2_x2 c2_x2), (.slice A3_x2 n3_x2 c3_x2)]), (w9.heap.size, [.bool X1.s, (.slice A0_x1 n0_x1 c0_x1), (.slice A1_x1 n1_x1 c1_x1), .bool Y1.s, (.slice A2_x1 n2_x1 c2_x1), (.slice A3_x1 n3_x1 c3_x1)]), (w8.heap.size, [.int .i64 A0, .int .i64 B0, .bool P0.s, (.slice A0_x0 n0_x0 c0_x0), (.slice A1_x0 n1_x0 c1_x0), .bool Q0.s, (.slice A2_x0 n2_x0 c2_x0), (.slice A3_x0 n3_x0 c3_x0), .bool R0.s, (.slice A4_x0 n4_x0 c4_x0), (.slice A5_x0 n5_x0 c5_x0)]), (W.heap.size + 1 + 1, [.bool X2.s, x20, x21, .bool Y2.s, y20, y21]), (W.heap.size + 1, [.bool X1.s, x10, x11, .bool Y1.s, y10, y11]), (W.heap.size, [.int .i64 A0, .int .i64 B0, .bool P0.s, p00, p01, .bool Q0.s, q00, q01, .bool R0.s, r00, r01]), (b_w, [.bool G.s, (.slice Aw nw cw), (.slice Bw mw dw)]), (blk, [.bool G.s, (.slice Ah nh ch), (.slice Bh mh dh)])] [[((.slice Ah nh ch), ints G.xs), ((.slice Bh mh dh), ints G.ys)], markL (1) [((.slice Ag ng cg), ints G.xs), ((.slice Bg mg dg), ints G.ys)], [((.slice Aw nw cw), ints G.xs), ((.slice Bw mw dw), ints G.ys)]])
  case first =>
    go_region_held3 (fun w' => w'.cell? ⟨W.heap.size + 1 + 1, 0, none⟩ = some (.bool X2.s) ∧ w'.cell? ⟨W.heap.size + 1 + 1, 1, none⟩ = some (x20) ∧ w'.cell? ⟨W.heap.size + 1 + 1, 2, none⟩ = some (x21) ∧ w'.cell? ⟨W.heap.size + 1 + 1, 3, none⟩ = some (.bool Y2.s) ∧ w'.cell? ⟨W.heap.size + 1 + 1, 4, none⟩ = some (y20) ∧ w'.cell? ⟨W.heap.size + 1 + 1, 5, none⟩ = some (y21) ∧ w'.cell? ⟨W.heap.size + 1, 0, none⟩ = some (.bool X1.s) ∧ w'.cell? ⟨W.heap.size + 1, 1, none⟩ = some (x10) ∧ w'.cell? ⟨W.heap.size + 1, 2, none⟩ = some (x11) ∧ w'.cell? ⟨W.heap.size + 1, 3, none⟩ = some (.bool Y1.s) ∧ w'.cell? ⟨W.heap.size + 1, 4, none⟩ = some (y10) ∧ w'.cell? ⟨W.heap.size + 1, 5, none⟩ = some (y11) ∧ w'.cell? ⟨W.heap.size, 0, none⟩ = some (.int .i64 A0) ∧ w'.cell? ⟨W.heap.size, 1, none⟩ = some (.int .i64 B0) ∧ w'.cell? ⟨W.heap.size, 2, none⟩ = some (.bool P0.s) ∧ w'.cell? ⟨W.heap.size, 3, none⟩ = some (p00) ∧ w'.cell? ⟨W.heap.size, 4, none⟩ = some (p01) ∧ w'.cell? ⟨W.heap.size, 5, none⟩ = some (.bool Q0.s) ∧ w'.cell? ⟨W.heap.size, 6, none⟩ = some (q00) ∧ w'.cell? ⟨W.heap.size, 7, none⟩ = some (q01) ∧ w'.cell? ⟨W.heap.size, 8, none⟩ = some (.bool R0.s) ∧ w'.cell? ⟨W.heap.size, 9, none⟩ = some (r00) ∧ w'.cell? ⟨W.heap.size, 10, none⟩ = some (r01)) (go_keep)
      (first
        | (go_at_call_of 11 (Value.agg #[Value.int .i64 A0, Value.int .i64 B0, Value.bool P0.s, p00, p01, Value.bool Q0.s, q00, q01, Value.bool R0.s, r00, r01])
           first | refine (toLink_f A0 B0 P0 Q0 R0 p00 p01 q00 q01 r00 r01 _ (S_36.out.drew.lkI HA0.out) HL0.out).mono ?_ | refine (toLink_f A0 B0 P0 Q0 R0 p00 p01 q00 q01 r00 r01 _ ((S_36.out.allocE [.bool false, .slice none 0 0, .slice none 0 0] 35).drew.lkI HA0.out) HL0.out).mono ?_
           rintro e w25 ⟨v0_u0, v1_u0, v2_u0, v3_u0, v4_u0, v5_u0, rfl, ho, hb⟩
           obtain ⟨A0_u0, n0_u0, c0_u0, rfl⟩ := (ho.at_ 0 rfl).shape3
           obtain ⟨A1_u0, n1_u0, c1_u0, rfl⟩ := (ho.at_ 1 rfl).shape3
           obtain ⟨A2_u0, n2_u0, c2_u0, rfl⟩ := (ho.at_ 2 rfl).shape3
           obtain ⟨A3_u0, n3_u0, c3_u0, rfl⟩ := (ho.at_ 3 rfl).shape3
           obtain ⟨A4_u0, n4_u0, c4_u0, rfl⟩ := (ho.at_ 4 rfl).shape3
           obtain ⟨A5_u0, n5_u0, c5_u0, rfl⟩ := (ho.at_ 5 rfl).shape3
           first | (have S_37 := Lib.hid (S_36.out.drew.rows ho hb)) | (have S_37 := Lib.hid ((S_36.out.allocE [.bool false, .slice none 0 0, .slice none 0 0] 35).drew.rows ho hb))
           clear S_36 ho hb
           have hk_arg0_0_37 := S_37.out.cell 6 0 rfl rfl
           have hk_arg0_1_37 := S_37.out.cell 6 1 rfl rfl
           have hk_arg0_2_37 := S_37.out.cell 6 2 rfl rfl
           have hk_arg0_3_37 := S_37.out.cell 6 3 rfl rfl
           have hk_arg0_4_37 := S_37.out.cell 6 4 rfl rfl
           have hk_arg0_5_37 := S_37.out.cell 6 5 rfl rfl
           have hk_arg0_6_37 := S_37.out.cell 6 6 rfl rfl
           have hk_arg0_7_37 := S_37.out.cell 6 7 rfl rfl
           have hk_arg0_8_37 := S_37.out.cell 6 8 rfl rfl
           have hk_arg0_9_37 := S_37.out.cell 6 9 rfl rfl
           have hk_arg0_10_37 := S_37.out.cell 6 10 rfl rfl
           have hk_arg1_0_37 := S_37.out.cell 5 0 rfl rfl
           have hk_arg1_1_37 := S_37.out.cell 5 1 rfl rfl
           have hk_arg1_2_37 := S_37.out.cell 5 2 rfl rfl
           have hk_arg1_3_37 := S_37.out.cell 5 3 rfl rfl
           have hk_arg1_4_37 := S_37.out.cell 5 4 rfl rfl
           have hk_arg1_5_37 := S_37.out.cell 5 5 rfl rfl
           have hk_arg2_0_37 := S_37.out.cell 4 0 rfl rfl
           have hk_arg2_1_37 := S_37.out.cell 4 1 rfl rfl
           have hk_arg2_2_37 := S_37.out.cell 4 2 rfl rfl
           have hk_arg2_3_37 := S_37.out.cell 4 3 rfl rfl
           have hk_arg2_4_37 := S_37.out.cell 4 4 rfl rfl
           have hk_arg2_5_37 := S_37.out.cell 4 5 rfl rfl)
        | (go_at_call_of 12 (Value.agg #[Value.bool X1.s, x10, x11, Value.bool Y1.s, y10, y11])
           first | refine (toPoint_f X1 Y1 x10 x11 y10 y11 _ (S_37.out.frI HA1.out) (S_37.out.frI HA1b.out) HL1.out).mono ?_ | refine (toPoint_f X1 Y1 x10 x11 y10 y11 _ ((S_37.out.allocE [.bool false, .slice none 0 0, .slice none 0 0] 35).frI HA1.out) ((S_37.out.allocE [.bool false, .slice none 0 0, .slice none 0 0] 35).frI HA1b.out) HL1.out).mono ?_
           rintro e w26 ⟨v0_u1, v1_u1, v2_u1, v3_u1, rfl, ho, hb⟩
           obtain ⟨A0_u1, n0_u1, c0_u1, rfl⟩ := (ho.at_ 0 rfl).shape3
           obtain ⟨A1_u1, n1_u1, c1_u1, rfl⟩ := (ho.at_ 1 rfl).shape3
           obtain ⟨A2_u1, n2_u1, c2_u1, rfl⟩ := (ho.at_ 2 rfl).shape3
           obtain ⟨A3_u1, n3_u1, c3_u1, rfl⟩ := (ho.at_ 3 rfl).shape3
           first | (have S_38 := Lib.hid (S_37.out.rows ho hb)) | (have S_38 := Lib.hid ((S_37.out.allocE [.bool false, .slice none 0 0, .slice none 0 0] 35).rows ho hb))
           clear S_37 ho hb
           have hk_arg0_0_38 := S_38.out.cell 6 0 rfl rfl
           have hk_arg0_1_38 := S_38.out.cell 6 1 rfl rfl
           have hk_arg0_2_38 := S_38.out.cell 6 2 rfl rfl
           have hk_arg0_3_38 := S_38.out.cell 6 3 rfl rfl
           have hk_arg0_4_38 := S_38.out.cell 6 4 rfl rfl
           have hk_arg0_5_38 := S_38.out.cell 6 5 rfl rfl
           have hk_arg0_6_38 := S_38.out.cell 6 6 rfl rfl
           have hk_arg0_7_38 := S_38.out.cell 6 7 rfl rfl
           have hk_arg0_8_38 := S_38.out.cell 6 8 rfl rfl
           have hk_arg0_9_38 := S_38.out.cell 6 9 rfl rfl
           have hk_arg0_10_38 := S_38.out.cell 6 10 rfl rfl
           have hk_arg1_0_38 := S_38.out.cell 5 0 rfl rfl
           have hk_arg1_1_38 := S_38.out.cell 5 1 rfl rfl
           have hk_arg1_2_38 := S_38.out.cell 5 2 rfl rfl
           have hk_arg1_3_38 := S_38.out.cell 5 3 rfl rfl
           have hk_arg1_4_38 := S_38.out.cell 5 4 rfl rfl
           have hk_arg1_5_38 := S_38.out.cell 5 5 rfl rfl
           have hk_arg2_0_38 := S_38.out.cell 4 0 rfl rfl
           have hk_arg2_1_38 := S_38.out.cell 4 1 rfl rfl
           have hk_arg2_2_38 := S_38.out.cell 4 2 rfl rfl
           have hk_arg2_3_38 := S_38.out.cell 4 3 rfl rfl
           have hk_arg2_4_38 := S_38.out.cell 4 4 rfl rfl
           have hk_arg2_5_38 := S_38.out.cell 4 5 rfl rfl)
        | (go_at_call_of 12 (Value.agg #[Value.bool X2.s, x20, x21, Value.bool Y2.s, y20, y21])
           first | refine (toPoint_f X2 Y2 x20 x21 y20 y21 _ (S_38.out.frI HA2.out) (S_38.out.frI HA2b.out) HL2.out).mono ?_ | refine (toPoint_f X2 Y2 x20 x21 y20 y21 _ ((S_38.out.allocE [.bool false, .slice none 0 0, .slice none 0 0] 35).frI HA2.out) ((S_38.out.allocE [.bool false, .slice none 0 0, .slice none 0 0] 35).frI HA2b.out) HL2.out).mono ?_
           rintro e w27 ⟨v0_u2, v1_u2, v2_u2, v3_u2, rfl, ho, hb⟩
           obtain ⟨A0_u2, n0_u2, c0_u2, rfl⟩ := (ho.at_ 0 rfl).shape3
           obtain ⟨A1_u2, n1_u2, c1_u2, rfl⟩ := (ho.at_ 1 rfl).shape3
           obtain ⟨A2_u2, n2_u2, c2_u2, rfl⟩ := (ho.at_ 2 rfl).shape3
           obtain ⟨A3_u2, n3_u2, c3_u2, rfl⟩ := (ho.at_ 3 rfl).shape3
           first | (have S_39 := Lib.hid (S_38.out.rows ho hb)) | (have S_39 := Lib.hid ((S_38.out.allocE [.bool false, .slice none 0 0, .slice none 0 0] 35).rows ho hb))
           clear S_38 ho hb
           have hk_arg0_0_39 := S_39.out.cell 6 0 rfl rfl
           have hk_arg0_1_39 := S_39.out.cell 6 1 rfl rfl
           have hk_arg0_2_39 := S_39.out.cell 6 2 rfl rfl
           have hk_arg0_3_39 := S_39.out.cell 6 3 rfl rfl
           have hk_arg0_4_39 := S_39.out.cell 6 4 rfl rfl
           have hk_arg0_5_39 := S_39.out.cell 6 5 rfl rfl
           have hk_arg0_6_39 := S_39.out.cell 6 6 rfl rfl
           have hk_arg0_7_39 := S_39.out.cell 6 7 rfl rfl
           have hk_arg0_8_39 := S_39.out.cell 6 8 rfl rfl
           have hk_arg0_9_39 := S_39.out.cell 6 9 rfl rfl
           have hk_arg0_10_39 := S_39.out.cell 6 10 rfl rfl
           have hk_arg1_0_39 := S_39.out.cell 5 0 rfl rfl
           have hk_arg1_1_39 := S_39.out.cell 5 1 rfl rfl
           have hk_arg1_2_39 := S_39.out.cell 5 2 rfl rfl
           have hk_arg1_3_39 := S_39.out.cell 5 3 rfl rfl
           have hk_arg1_4_39 := S_39.out.cell 5 4 rfl rfl
           have hk_arg1_5_39 := S_39.out.cell 5 5 rfl rfl
           have hk_arg2_0_39 := S_39.out.cell 4 0 rfl rfl
           have hk_arg2_1_39 := S_39.out.cell 4 1 rfl rfl
           have hk_arg2_2_39 := S_39.out.cell 4 2 rfl rfl
           have hk_arg2_3_39 := S_39.out.cell 4 3 rfl rfl
           have hk_arg2_4_39 := S_39.out.cell 4 4 rfl rfl
           have hk_arg2_5_39 := S_39.out.cell 4 5 rfl rfl)
        | (go_at_call 13
           first | refine (linkEnergy_i A0 B0 P0 Q0 R0 (.slice A0_u0 n0_u0 c0_u0) (.slice A1_u0 n1_u0 c1_u0) (.slice A2_u0 n2_u0 c2_u0) (.slice A3_u0 n3_u0 c3_u0) (.slice A4_u0 n4_u0 c4_u0) (.slice A5_u0 n5_u0 c5_u0) X1 Y1 X2 Y2 (.slice A0_u1 n0_u1 c0_u1) (.slice A1_u1 n1_u1 c1_u1) (.slice A2_u1 n2_u1 c2_u1) (.slice A3_u1 n3_u1 c3_u1) (.slice A0_u2 n0_u2 c0_u2) (.slice A1_u2 n1_u2 c1_u2) (.slice A2_u2 n2_u2 c2_u2) (.slice A3_u2 n3_u2 c3_u2) _ (S_39.out.lk 2 rfl) (S_39.out.pt 1 rfl) (S_39.out.pt 0 rfl)).mono ?_ | refine (linkEnergy_i A0 B0 P0 Q0 R0 (.slice A0_u0 n0_u0 c0_u0) (.slice A1_u0 n1_u0 c1_u0) (.slice A2_u0 n2_u0 c2_u0) (.slice A3_u0 n3_u0 c3_u0) (.slice A4_u0 n4_u0 c4_u0) (.slice A5_u0 n5_u0 c5_u0) X1 Y1 X2 Y2 (.slice A0_u1 n0_u1 c0_u1) (.slice A1_u1 n1_u1 c1_u1) (.slice A2_u1 n2_u1 c2_u1) (.slice A3_u1 n3_u1 c3_u1) (.slice A0_u2 n0_u2 c0_u2) (.slice A1_u2 n1_u2 c1_u2) (.slice A2_u2 n2_u2 c2_u2) (.slice A3_u2 n3_u2 c3_u2) _ ((S_39.out.allocE [.bool false, .slice none 0 0, .slice none 0 0] 35).lk 2 rfl) ((S_39.out.allocE [.bool false, .slice none 0 0, .slice none 0 0] 35).pt 1 rfl) ((S_39.out.allocE [.bool false, .slice none 0 0, .slice none 0 0] 35).pt 0 rfl)).mono ?_
           rintro e w28 ⟨vh, uh, rfl, ho, hb⟩
           obtain ⟨Ah, nh, ch, rfl⟩ := (ho.at_ 0 rfl).shape3
           obtain ⟨Bh, mh, dh, rfl⟩ := (ho.at_ 1 rfl).shape3
           rw [HG.out] at ho ⊢
           first | (have S_40 := Lib.hid (S_39.out.rows ho hb)) | (have S_40 := Lib.hid ((S_39.out.allocE [.bool false, .slice none 0 0, .slice none 0 0] 35).rows ho hb))
           clear S_39 ho hb
           have hk_arg0_0_40 := S_40.out.cell 6 0 rfl rfl
           have hk_arg0_1_40 := S_40.out.cell 6 1 rfl rfl
           have hk_arg0_2_40 := S_40.out.cell 6 2 rfl rfl
           have hk_arg0_3_40 := S_40.out.cell 6 3 rfl rfl
           have hk_arg0_4_40 := S_40.out.cell 6 4 rfl rfl
           have hk_arg0_5_40 := S_40.out.cell 6 5 rfl rfl
           have hk_arg0_6_40 := S_40.out.cell 6 6 rfl rfl
           have hk_arg0_7_40 := S_40.out.cell 6 7 rfl rfl
           have hk_arg0_8_40 := S_40.out.cell 6 8 rfl rfl
           have hk_arg0_9_40 := S_40.out.cell 6 9 rfl rfl
           have hk_arg0_10_40 := S_40.out.cell 6 10 rfl rfl
           have hk_arg1_0_40 := S_40.out.cell 5 0 rfl rfl
           have hk_arg1_1_40 := S_40.out.cell 5 1 rfl rfl
           have hk_arg1_2_40 := S_40.out.cell 5 2 rfl rfl
           have hk_arg1_3_40 := S_40.out.cell 5 3 rfl rfl
           have hk_arg1_4_40 := S_40.out.cell 5 4 rfl rfl
           have hk_arg1_5_40 := S_40.out.cell 5 5 rfl rfl
           have hk_arg2_0_40 := S_40.out.cell 4 0 rfl rfl
           have hk_arg2_1_40 := S_40.out.cell 4 1 rfl rfl
           have hk_arg2_2_40 := S_40.out.cell 4 2 rfl rfl
           have hk_arg2_3_40 := S_40.out.cell 4 3 rfl rfl
           have hk_arg2_4_40 := S_40.out.cell 4 4 rfl rfl
           have hk_arg2_5_40 := S_40.out.cell 4 5 rfl rfl
           try have hkn0 := S_40.out.cell 8 0 rfl rfl
           try have hkf0 := S_40.out.froz 8 0 rfl rfl
           try have hkn1 := S_40.out.cell 8 1 rfl rfl
           try have hkf1 := S_40.out.froz 8 1 rfl rfl
           try have hkn2 := S_40.out.cell 8 2 rfl rfl
           try have hkf2 := S_40.out.froz 8 2 rfl rfl
           try have hnx_g := S_40.out.ne 8 0 rfl rfl (by decide)
           try have hny_g := S_40.out.ne 0 8 rfl rfl (by decide)
           try have hnx_x2 := S_40.out.ne 8 1 rfl rfl (by decide)
           try have hny_x2 := S_40.out.ne 1 8 rfl rfl (by decide)
           try have hnx_x1 := S_40.out.ne 8 2 rfl rfl (by decide)
           try have hny_x1 := S_40.out.ne 2 8 rfl rfl (by decide)
           try have hnx_x0 := S_40.out.ne 8 3 rfl rfl (by decide)
           try have hny_x0 := S_40.out.ne 3 8 rfl rfl (by decide)
           try have hnx_arg2 := S_40.out.ne 8 4 rfl rfl (by decide)
           try have hny_arg2 := S_40.out.ne 4 8 rfl rfl (by decide)
           try have hnx_arg1 := S_40.out.ne 8 5 rfl rfl (by decide)
           try have hny_arg1 := S_40.out.ne 5 8 rfl rfl (by decide)
           try have hnx_arg0 := S_40.out.ne 8 6 rfl rfl (by decide)
           try have hny_arg0 := S_40.out.ne 6 8 rfl rfl (by decide)
           try have hnx_w := S_40.out.ne 8 7 rfl rfl (by decide)
           try have hny_w := S_40.out.ne 7 8 rfl rfl (by decide)))
    all_goals go_wp2_with fail
    all_goals go_meet
    all_goals refine ⟨_, Ah, nh, ch, Bh, mh, dh, rfl, ?_⟩
    all_goals first
      | exact ((((S_40.out.allocE [.bool G.s, (.slice Ah nh ch), (.slice Bh mh dh)] 35).drop 3).drop 2).drop 1)
      | exact ((((((S_40.out.set 8 0 (.bool G.s) rfl rfl).set 8 1 ((.slice Ah nh ch)) rfl rfl).set 8 2 ((.slice Bh mh dh)) rfl rfl).drop 3).drop 2).drop 1)
  obtain ⟨b_h, Ah, nh, ch, Bh, mh, dh, rfl, hst⟩ := hcut
  have S_41 := Lib.hid hst
  clear hst
  have hne_g_h := S_41.out.ne 0 8 rfl rfl (by decide)
  have hne_h_g := S_41.out.ne 8 0 rfl rfl (by decide)
  have hne_x2_h := S_41.out.ne 1 8 rfl rfl (by decide)
  have hne_h_x2 := S_41.out.ne 8 1 rfl rfl (by decide)
  have hne_x1_h := S_41.out.ne 2 8 rfl rfl (by decide)
  have hne_h_x1 := S_41.out.ne 8 2 rfl rfl (by decide)
  have hne_x0_h := S_41.out.ne 3 8 rfl rfl (by decide)
  have hne_h_x0 := S_41.out.ne 8 3 rfl rfl (by decide)
  have hne_arg2_h := S_41.out.ne 4 8 rfl rfl (by decide)
  have hne_h_arg2 := S_41.out.ne 8 4 rfl rfl (by decide)
  have hne_arg1_h := S_41.out.ne 5 8 rfl rfl (by decide)
  have hne_h_arg1 := S_41.out.ne 8 5 rfl rfl (by decide)
  have hne_arg0_h := S_41.out.ne 6 8 rfl rfl (by decide)
  have hne_h_arg0 := S_41.out.ne 8 6 rfl rfl (by decide)
  have hne_w_h := S_41.out.ne 7 8 rfl rfl (by decide)
  have hne_h_w := S_41.out.ne 8 7 rfl rfl (by decide)
  obtain ⟨wnh, hwnh⟩ : ∃ u, wc = u := ⟨_, rfl⟩
  rw [hwnh] at S_41 ⊢
  clear hwnh
  have hk_h_0_41 := S_41.out.cell 8 0 rfl rfl
  have hk_h_1_41 := S_41.out.cell 8 1 rfl rfl
  have hk_h_2_41 := S_41.out.cell 8 2 rfl rfl
  have hk_w_0_41 := S_41.out.cell 7 0 rfl rfl
  have hk_w_1_41 := S_41.out.cell 7 1 rfl rfl
  have hk_w_2_41 := S_41.out.cell 7 2 rfl rfl
  go_wp2_with fail
  refine (eqRat_f G (.slice Ah nh ch) (.slice Bh mh dh) _ (.slice Aw nw cw) (.slice Bw mw dw) (S_41.out.fr 0 0 rfl rfl rfl).i (S_41.out.fr 2 0 rfl rfl rfl).i).mono ?_
  rintro e w29 ⟨rfl, hb⟩
  have S_42 := Lib.hid (S_41.out.call hb)
  clear S_41
  clear hb
  clear hk_h_0_41 hk_h_1_41 hk_h_2_41 hk_w_0_41 hk_w_1_41 hk_w_2_41
  have hk_g_0_42 := S_42.out.cell 0 0 rfl rfl
  have hk_g_1_42 := S_42.out.cell 0 1 rfl rfl
  have hk_g_2_42 := S_42.out.cell 0 2 rfl rfl
  go_wp2_with fail
  refine (heldRat_f (.slice Ag ng cg) (.slice Bg mg dg) _ G.s (ints G.xs) (ints G.ys) (1) W.heap.size _ (by first | rfl | omega) (S_42.out.own 1 rfl) (by rw [show lenL _ = m0 from Hm0.out]; omega)).mono ?_
  rintro e w30 ⟨rfl, hb⟩
  rw [show lenL _ = m0 from Hm0.out]
  have S_43 := Lib.hid (S_42.out.call hb)
  clear S_42
  clear hb
  clear hk_g_0_42 hk_g_1_42 hk_g_2_42
  go_wp2
  go_ret
  exact ⟨rfl, S_43.out.below⟩

set_option maxRecDepth 100000 in
theorem lifted (os : Os) (started : os.Started) (H : Type) (enc : TypeId × Value → H) :
    ReturnsInHanded {} Tryz.checked os 3 .any (Rows.fnExactLinkEnergySpec.pre6 enc Tryz.prog Tryz.f3 Rows.fnExactLinkEnergyRow.domain false) (Rows.fnExactLinkEnergySpec.post enc Tryz.prog Tryz.f3 false true false false) := by
  refine returnsInHanded_of_change (C := Tryz.checked) own started (by kernel_rfl) Tryz.func3
    (ChangeSpec.witness6 (enc := enc) (C := Tryz.checked) false ⟨#[], #[.agg #[.int .i64 0, .int .i64 0, .bool false, .slice none 0 0, .slice none 0 0, .bool false, .slice none 0 0, .slice none 0 0, .bool false, .slice none 0 0, .slice none 0 0], .agg #[.bool false, .slice none 0 0, .slice none 0 0, .bool false, .slice none 0 0, .slice none 0 0], .agg #[.bool false, .slice none 0 0, .slice none 0 0, .bool false, .slice none 0 0, .slice none 0 0]], []⟩ 8 (by kernel_rfl) (by kernel_rfl) (by kernel_rfl) (by kernel_rfl)) ?_
  intro W base args ds gs before hval0 hW hcnd _
  have hval : ∀ (j : Nat) t v, Tryz.f3.params[j]? = some t → args[j]? = some v → Value.okWide Tryz.prog W .any base t v := hval0
  have hW' := hW
  obtain ⟨p, q, hA0, hV, rfl, hfz, hnd⟩ := hW
  have hA : DataW.TrodAll enc Tryz.prog W 0 (fun _ => true) true Tryz.f3.params.toList args.toList ds p := hA0
  rw [Tryz.params3] at hA hval
  obtain ⟨v0, vs0, d0, ds0, p0, q0, hargs, rfl, rfl, h0, r0⟩ := trodAll_cons hA
  obtain ⟨v1, vs1, d1, ds1, p1, q1, rfl, rfl, rfl, h1, r1⟩ := trodAll_cons r0
  obtain ⟨v2, vs2, d2, ds2, p2, q2, rfl, rfl, rfl, h2, r2⟩ := trodAll_cons r1
  obtain ⟨rfl, rfl, rfl⟩ := trodAll_nil r2
  obtain rfl : args = #[v0, v1, v2] := by cases args; simp_all
  obtain ⟨rfl, rfl⟩ := trodVars_none hV
  have k0 := h0
  have lt0 : ∀ x ∈ p0, x.block < W.heap.size := by obtain ⟨m, hm⟩ := k0; exact DataW.trod_lt m _ _ _ hm
  obtain ⟨A0, B0, P0, Q0, R0, p00, p01, q00, q01, r00, r01, rfl, w0⟩ := isLink_of linkT (hval 0 28 v0 rfl rfl) h0
  have k1 := h1
  have lt1 : ∀ x ∈ p1, x.block < W.heap.size := by obtain ⟨m, hm⟩ := k1; exact DataW.trod_lt m _ _ _ hm
  obtain ⟨X1, Y1, x10, x11, y10, y11, rfl, w1, w1b⟩ := isPoint_of pointT (hval 1 30 v1 rfl rfl) h1
  have k2 := h2
  have lt2 : ∀ x ∈ p2, x.block < W.heap.size := by obtain ⟨m, hm⟩ := k2; exact DataW.trod_lt m _ _ _ hm
  obtain ⟨X2, Y2, x20, x21, y20, y21, rfl, w2, w2b⟩ := isPoint_of pointT (hval 2 30 v2 rfl rfl) h2
  clear hA0 hval0
  refine (walk W A0 B0 P0 Q0 R0 p00 p01 q00 q01 r00 r01 w0 X1 Y1 x10 x11 y10 y11 w1 w1b X2 Y2 x20 x21 y20 y21 w2 w2b).mono fun e W' ⟨he, bel⟩ => ?_
  subst he
  exact ⟨_, rfl, _, _, _, [], _, [], hW', trodAll_mk1 (shut_bool Tryz.underlying4 _), (trodAll_cons_mk (Below.trod laidOut (by kernel_rfl) (of_decide_eq_true (by kernel_rfl)) k0 bel lt0) (trodAll_cons_mk (Below.trod laidOut (by kernel_rfl) (of_decide_eq_true (by kernel_rfl)) k1 bel lt1) (trodAll_cons_mk (Below.trod laidOut (by kernel_rfl) (of_decide_eq_true (by kernel_rfl)) k2 bel lt2) trodAll_mk0))), rfl, bel.frame _, fun h => by cases h⟩

theorem over : Rows.fnExactLinkEnergyRow.holds Tryz.pinned (OpenSpec.ofChange Rows.fnExactLinkEnergySpec) :=
  OpenClaim.holds_of_wide 3 Tryz.f3 rfl rfl rfl rfl rfl rfl rfl ⟨rfl, rfl, rfl, rfl, rfl⟩ rfl rfl rfl rfl rfl (by kernel_rfl) Tryz.func3 (by kernel_rfl)
    (of_decide_eq_true (by kernel_rfl)) (by unfold Func.isWrapper; first | (rw [if_pos (by decide +kernel)]; kernel_rfl) | (rw [if_neg (by decide +kernel)]; exact ⟨rfl, rfl⟩))
    (fun os started H enc _ => lifted os started H enc)

theorem proved : Rows.FnExactLinkEnergySaid := over
#print axioms proved
end Go.Proofs.YtgjaennedihckaaGreat.lawLinkEnergy
