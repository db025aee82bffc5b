/- Proved: at every link, impl.FormatLink answers as its model spec.FormatLink in every result, writes into no argument, the call returns true and changes no memory that was there; the listed variables of the library are tied to the text that lays them. Conditions: none. -/
import Derived.Test.YtljlibigphgffaaGreatDoorRows
import Derived.Test.YtljlibigphgffaaGreatDoorB1
import Derived.Test.YtljlibigphgffaaGreatDoorLkBase
import Derived.Test.YtljlibigphgffaaGreatDoorLkText
import Derived.Test.YtljlibigphgffaaGreatDoorLaidL
import Derived.Test.YtljlibigphgffaaGreatDoorCards
import Derived.Test.YtljlibigphgffaaGreatDoorTie
import Derived.WalkKit
import Derived.ProofKit
import Derived.OpenShut
import Derived.ShutString
import Derived.ChangeOld
import Derived.Below
import Derived.LaidMore
import Derived.Stop.Joined
import Derived.SevenTiedAt
namespace Go.Proofs.YtljlibigphgffaaGreatDoor.lawFormatLink
open Go.ChangeShapes Go.WideShapes Go.ChangeAt Go.RowKit
open Go.ChangeMaps (open_string shut_string)
set_option linter.unusedVariables false

theorem own : ownKnob Tryz.prog.godebug = none := by kernel_rfl
theorem laidOut : laidOutB Tryz.prog = true := by kernel_rfl
open Nt Fr

set_option maxRecDepth 100000 in
set_option maxHeartbeats 4000000 in
theorem walk (W : World) (hlaid : Laid1 W) (A0 B0 : Int) (P0 Q0 R0 : Fr) (p00 p01 q00 q01 r00 r01 : Value) (w0 : LkI W P0 Q0 R0 p00 p01 q00 q01 r00 r01) :
    Calls Tryz.prog 3 #[.agg #[.int .i64 A0, .int .i64 B0, .bool P0.s, p00, p01, .bool Q0.s, q00, q01, .bool R0.s, r00, r01]] W fun e w' => e = .returned (.bool true) ∧ Below W.heap.size W w' := by
  have HLD := Lib.hid hlaid
  clear hlaid
  have HA0 := Lib.hid w0
  clear w0
  have S_1 := Lib.hid (show St W (W.alloc (.cells #[.int .i64 A0, .int .i64 B0, .bool P0.s, p00, p01, .bool Q0.s, q00, q01, .bool R0.s, r00, r01] 28)) [(W.heap.size, [.int .i64 A0, .int .i64 B0, .bool P0.s, p00, p01, .bool Q0.s, q00, q01, .bool R0.s, r00, r01])] [] from ((St.start W).alloc_at (b := W.heap.size) [.int .i64 A0, .int .i64 B0, .bool P0.s, p00, p01, .bool Q0.s, q00, q01, .bool R0.s, r00, r01] 28 (by first | rfl | simp)))
  go_enter Tryz.func3, Tryz.ntmps3
  go_wp2_with fail
  refine (szLink_f A0 B0 P0 Q0 R0 p00 p01 q00 q01 r00 r01 _ 1048576 (by omega) (by omega) (S_1.out.lkI HA0.out)).mono ?_
  rintro e w1 ⟨rfl, hb⟩
  have S_2 := Lib.hid (S_1.out.call hb)
  clear S_1
  clear hb
  by_cases hs0 : (1048576 : Int) < ((P0.len + Q0.len + R0.len : Nat) : Int)
  · rw [szOf_neg hs0]
    go_wp2
    go_ret
    exact ⟨rfl, S_2.out.below⟩
  rw [szOf_pos hs0]
  obtain ⟨left0, hq0⟩ : ∃ q : Int, 1048576 - ((P0.len + Q0.len + R0.len : Nat) : Int) = q := ⟨_, rfl⟩
  have hl0 : 0 ≤ left0 ∧ left0 ≤ 1048576 ∧ P0.len + Q0.len + R0.len ≤ 1048576 := by omega
  rw [hq0]
  have HL0 := Lib.hid hl0.2.2
  clear hq0 hs0
  have hk_arg0_0_2 := S_2.out.cell 0 0 rfl rfl
  have hk_arg0_1_2 := S_2.out.cell 0 1 rfl rfl
  have hk_arg0_2_2 := S_2.out.cell 0 2 rfl rfl
  have hk_arg0_3_2 := S_2.out.cell 0 3 rfl rfl
  have hk_arg0_4_2 := S_2.out.cell 0 4 rfl rfl
  have hk_arg0_5_2 := S_2.out.cell 0 5 rfl rfl
  have hk_arg0_6_2 := S_2.out.cell 0 6 rfl rfl
  have hk_arg0_7_2 := S_2.out.cell 0 7 rfl rfl
  have hk_arg0_8_2 := S_2.out.cell 0 8 rfl rfl
  have hk_arg0_9_2 := S_2.out.cell 0 9 rfl rfl
  have hk_arg0_10_2 := S_2.out.cell 0 10 rfl rfl
  go_wp2_with fail
  refine (toLink_f A0 B0 P0 Q0 R0 p00 p01 q00 q01 r00 r01 _ (S_2.out.lkI HA0.out) HL0.out).mono ?_
  rintro e w2 ⟨v0_t, v1_t, v2_t, v3_t, v4_t, v5_t, rfl, ho, hb⟩
  obtain ⟨A0_t, n0_t, c0_t, rfl⟩ := (ho.at_ 0 rfl).shape3
  obtain ⟨A1_t, n1_t, c1_t, rfl⟩ := (ho.at_ 1 rfl).shape3
  obtain ⟨A2_t, n2_t, c2_t, rfl⟩ := (ho.at_ 2 rfl).shape3
  obtain ⟨A3_t, n3_t, c3_t, rfl⟩ := (ho.at_ 3 rfl).shape3
  obtain ⟨A4_t, n4_t, c4_t, rfl⟩ := (ho.at_ 4 rfl).shape3
  obtain ⟨A5_t, n5_t, c5_t, rfl⟩ := (ho.at_ 5 rfl).shape3
  have S_3 := Lib.hid (S_2.out.rows ho hb)
  clear S_2
  clear ho hb
  clear hk_arg0_0_2 hk_arg0_1_2 hk_arg0_2_2 hk_arg0_3_2 hk_arg0_4_2 hk_arg0_5_2 hk_arg0_6_2 hk_arg0_7_2 hk_arg0_8_2 hk_arg0_9_2 hk_arg0_10_2
  obtain ⟨R, hR⟩ : ∃ z, fmtK A0 B0 P0 Q0 R0 = z := ⟨_, rfl⟩
  have HR := Lib.hid hR
  clear hR
  go_wp2_with fail
  refine (formatLink_s A0 B0 P0 Q0 R0 (.slice A0_t n0_t c0_t) (.slice A1_t n1_t c1_t) (.slice A2_t n2_t c2_t) (.slice A3_t n3_t c3_t) (.slice A4_t n4_t c4_t) (.slice A5_t n5_t c5_t) _ (S_3.out.lk 0 rfl)).mono ?_
  rintro e w3 ⟨rfl, hb⟩
  rw [HR.out]
  have S_4 := Lib.hid (S_3.out.call hb)
  clear S_3
  clear hb
  have S_5 := Lib.hid (S_4.out.drop 0)
  clear S_4
  have hk_arg0_0_5 := S_5.out.cell 0 0 rfl rfl
  have hk_arg0_1_5 := S_5.out.cell 0 1 rfl rfl
  have hk_arg0_2_5 := S_5.out.cell 0 2 rfl rfl
  have hk_arg0_3_5 := S_5.out.cell 0 3 rfl rfl
  have hk_arg0_4_5 := S_5.out.cell 0 4 rfl rfl
  have hk_arg0_5_5 := S_5.out.cell 0 5 rfl rfl
  have hk_arg0_6_5 := S_5.out.cell 0 6 rfl rfl
  have hk_arg0_7_5 := S_5.out.cell 0 7 rfl rfl
  have hk_arg0_8_5 := S_5.out.cell 0 8 rfl rfl
  have hk_arg0_9_5 := S_5.out.cell 0 9 rfl rfl
  have hk_arg0_10_5 := S_5.out.cell 0 10 rfl rfl
  go_wp2_with fail
  refine (toLink_f A0 B0 P0 Q0 R0 p00 p01 q00 q01 r00 r01 _ (S_5.out.lkI HA0.out) HL0.out).mono ?_
  rintro e w4 ⟨v0_x, v1_x, v2_x, v3_x, v4_x, v5_x, rfl, ho, hb⟩
  obtain ⟨A0_x, n0_x, c0_x, rfl⟩ := (ho.at_ 0 rfl).shape3
  obtain ⟨A1_x, n1_x, c1_x, rfl⟩ := (ho.at_ 1 rfl).shape3
  obtain ⟨A2_x, n2_x, c2_x, rfl⟩ := (ho.at_ 2 rfl).shape3
  obtain ⟨A3_x, n3_x, c3_x, rfl⟩ := (ho.at_ 3 rfl).shape3
  obtain ⟨A4_x, n4_x, c4_x, rfl⟩ := (ho.at_ 4 rfl).shape3
  obtain ⟨A5_x, n5_x, c5_x, rfl⟩ := (ho.at_ 5 rfl).shape3
  have S_6 := Lib.hid (S_5.out.rows ho hb)
  clear S_5
  clear ho hb
  clear hk_arg0_0_5 hk_arg0_1_5 hk_arg0_2_5 hk_arg0_3_5 hk_arg0_4_5 hk_arg0_5_5 hk_arg0_6_5 hk_arg0_7_5 hk_arg0_8_5 hk_arg0_9_5 hk_arg0_10_5
  go_wp2_with fail
  have S_7 := Lib.hid (S_6.out.alloc [.int .i64 A0, .int .i64 B0, .bool P0.s, (.slice A0_x n0_x c0_x), (.slice A1_x n1_x c1_x), .bool Q0.s, (.slice A2_x n2_x c2_x), (.slice A3_x n3_x c3_x), .bool R0.s, (.slice A4_x n4_x c4_x), (.slice A5_x n5_x c5_x)] 35)
  clear S_6
  have hne_arg0_x := S_7.out.ne 1 0 rfl rfl (by decide)
  have hne_x_arg0 := S_7.out.ne 0 1 rfl rfl (by decide)
  refine (formatLink_i A0 B0 P0 Q0 R0 (.slice A0_x n0_x c0_x) (.slice A1_x n1_x c1_x) (.slice A2_x n2_x c2_x) (.slice A3_x n3_x c3_x) (.slice A4_x n4_x c4_x) (.slice A5_x n5_x c5_x) _ (S_7.out.lk 0 rfl) (HLD.out.below S_7.out.below)).mono ?_
  rintro e w5 ⟨rfl, hb⟩
  rw [HR.out]
  have S_8 := Lib.hid (S_7.out.call hb)
  clear S_7
  clear hb
  have hk_x_0_8 := S_8.out.cell 0 0 rfl rfl
  have hk_x_1_8 := S_8.out.cell 0 1 rfl rfl
  have hk_x_2_8 := S_8.out.cell 0 2 rfl rfl
  have hk_x_3_8 := S_8.out.cell 0 3 rfl rfl
  have hk_x_4_8 := S_8.out.cell 0 4 rfl rfl
  have hk_x_5_8 := S_8.out.cell 0 5 rfl rfl
  have hk_x_6_8 := S_8.out.cell 0 6 rfl rfl
  have hk_x_7_8 := S_8.out.cell 0 7 rfl rfl
  have hk_x_8_8 := S_8.out.cell 0 8 rfl rfl
  have hk_x_9_8 := S_8.out.cell 0 9 rfl rfl
  have hk_x_10_8 := S_8.out.cell 0 10 rfl rfl
  have hk_arg0_0_8 := S_8.out.cell 1 0 rfl rfl
  have hk_arg0_1_8 := S_8.out.cell 1 1 rfl rfl
  have hk_arg0_2_8 := S_8.out.cell 1 2 rfl rfl
  have hk_arg0_3_8 := S_8.out.cell 1 3 rfl rfl
  have hk_arg0_4_8 := S_8.out.cell 1 4 rfl rfl
  have hk_arg0_5_8 := S_8.out.cell 1 5 rfl rfl
  have hk_arg0_6_8 := S_8.out.cell 1 6 rfl rfl
  have hk_arg0_7_8 := S_8.out.cell 1 7 rfl rfl
  have hk_arg0_8_8 := S_8.out.cell 1 8 rfl rfl
  have hk_arg0_9_8 := S_8.out.cell 1 9 rfl rfl
  have hk_arg0_10_8 := S_8.out.cell 1 10 rfl rfl
  go_wp2
  go_region_held3 (fun w' => w'.cell? ⟨w4.heap.size, 0, none⟩ = some (.int .i64 A0) ∧ w'.cell? ⟨w4.heap.size, 1, none⟩ = some (.int .i64 B0) ∧ w'.cell? ⟨w4.heap.size, 2, none⟩ = some (.bool P0.s) ∧ w'.cell? ⟨w4.heap.size, 3, none⟩ = some ((.slice A0_x n0_x c0_x)) ∧ w'.cell? ⟨w4.heap.size, 4, none⟩ = some ((.slice A1_x n1_x c1_x)) ∧ w'.cell? ⟨w4.heap.size, 5, none⟩ = some (.bool Q0.s) ∧ w'.cell? ⟨w4.heap.size, 6, none⟩ = some ((.slice A2_x n2_x c2_x)) ∧ w'.cell? ⟨w4.heap.size, 7, none⟩ = some ((.slice A3_x n3_x c3_x)) ∧ w'.cell? ⟨w4.heap.size, 8, none⟩ = some (.bool R0.s) ∧ w'.cell? ⟨w4.heap.size, 9, none⟩ = some ((.slice A4_x n4_x c4_x)) ∧ w'.cell? ⟨w4.heap.size, 10, none⟩ = some ((.slice A5_x n5_x c5_x)) ∧ w'.cell? ⟨W.heap.size, 0, none⟩ = some (.int .i64 A0) ∧ w'.cell? ⟨W.heap.size, 1, none⟩ = some (.int .i64 B0) ∧ w'.cell? ⟨W.heap.size, 2, none⟩ = some (.bool P0.s) ∧ w'.cell? ⟨W.heap.size, 3, none⟩ = some (p00) ∧ w'.cell? ⟨W.heap.size, 4, none⟩ = some (p01) ∧ w'.cell? ⟨W.heap.size, 5, none⟩ = some (.bool Q0.s) ∧ w'.cell? ⟨W.heap.size, 6, none⟩ = some (q00) ∧ w'.cell? ⟨W.heap.size, 7, none⟩ = some (q01) ∧ w'.cell? ⟨W.heap.size, 8, none⟩ = some (.bool R0.s) ∧ w'.cell? ⟨W.heap.size, 9, none⟩ = some (r00) ∧ w'.cell? ⟨W.heap.size, 10, none⟩ = some (r01)) (go_keep)
    (first
      | (go_at_call_of 6 (Value.agg #[Value.int .i64 A0, Value.int .i64 B0, Value.bool P0.s, p00, p01, Value.bool Q0.s, q00, q01, Value.bool R0.s, r00, r01])
         refine (toLink_f A0 B0 P0 Q0 R0 p00 p01 q00 q01 r00 r01 _ (S_8.out.drew.lkI HA0.out) HL0.out).mono ?_
         rintro e w6 ⟨v0_tt0, v1_tt0, v2_tt0, v3_tt0, v4_tt0, v5_tt0, rfl, ho, hb⟩
         obtain ⟨A0_tt0, n0_tt0, c0_tt0, rfl⟩ := (ho.at_ 0 rfl).shape3
         obtain ⟨A1_tt0, n1_tt0, c1_tt0, rfl⟩ := (ho.at_ 1 rfl).shape3
         obtain ⟨A2_tt0, n2_tt0, c2_tt0, rfl⟩ := (ho.at_ 2 rfl).shape3
         obtain ⟨A3_tt0, n3_tt0, c3_tt0, rfl⟩ := (ho.at_ 3 rfl).shape3
         obtain ⟨A4_tt0, n4_tt0, c4_tt0, rfl⟩ := (ho.at_ 4 rfl).shape3
         obtain ⟨A5_tt0, n5_tt0, c5_tt0, rfl⟩ := (ho.at_ 5 rfl).shape3
         have S_9 := Lib.hid (S_8.out.drew.rows ho hb)
         clear S_8 ho hb
         have hk_x_0_9 := S_9.out.cell 0 0 rfl rfl
         have hk_x_1_9 := S_9.out.cell 0 1 rfl rfl
         have hk_x_2_9 := S_9.out.cell 0 2 rfl rfl
         have hk_x_3_9 := S_9.out.cell 0 3 rfl rfl
         have hk_x_4_9 := S_9.out.cell 0 4 rfl rfl
         have hk_x_5_9 := S_9.out.cell 0 5 rfl rfl
         have hk_x_6_9 := S_9.out.cell 0 6 rfl rfl
         have hk_x_7_9 := S_9.out.cell 0 7 rfl rfl
         have hk_x_8_9 := S_9.out.cell 0 8 rfl rfl
         have hk_x_9_9 := S_9.out.cell 0 9 rfl rfl
         have hk_x_10_9 := S_9.out.cell 0 10 rfl rfl
         have hk_arg0_0_9 := S_9.out.cell 1 0 rfl rfl
         have hk_arg0_1_9 := S_9.out.cell 1 1 rfl rfl
         have hk_arg0_2_9 := S_9.out.cell 1 2 rfl rfl
         have hk_arg0_3_9 := S_9.out.cell 1 3 rfl rfl
         have hk_arg0_4_9 := S_9.out.cell 1 4 rfl rfl
         have hk_arg0_5_9 := S_9.out.cell 1 5 rfl rfl
         have hk_arg0_6_9 := S_9.out.cell 1 6 rfl rfl
         have hk_arg0_7_9 := S_9.out.cell 1 7 rfl rfl
         have hk_arg0_8_9 := S_9.out.cell 1 8 rfl rfl
         have hk_arg0_9_9 := S_9.out.cell 1 9 rfl rfl
         have hk_arg0_10_9 := S_9.out.cell 1 10 rfl rfl)
      | (go_at_call 8
         refine (eqLink_f A0 B0 P0 Q0 R0 (.slice A0_x n0_x c0_x) (.slice A1_x n1_x c1_x) (.slice A2_x n2_x c2_x) (.slice A3_x n3_x c3_x) (.slice A4_x n4_x c4_x) (.slice A5_x n5_x c5_x) (.slice A0_tt0 n0_tt0 c0_tt0) (.slice A1_tt0 n1_tt0 c1_tt0) (.slice A2_tt0 n2_tt0 c2_tt0) (.slice A3_tt0 n3_tt0 c3_tt0) (.slice A4_tt0 n4_tt0 c4_tt0) (.slice A5_tt0 n5_tt0 c5_tt0) _ (S_9.out.lk 1 rfl).i (S_9.out.lk 0 rfl).i).mono ?_
         rintro e w7 ⟨rfl, hb⟩
         have S_10 := Lib.hid (S_9.out.call hb)
         clear S_9 hb
         have hk_x_0_10 := S_10.out.cell 0 0 rfl rfl
         have hk_x_1_10 := S_10.out.cell 0 1 rfl rfl
         have hk_x_2_10 := S_10.out.cell 0 2 rfl rfl
         have hk_x_3_10 := S_10.out.cell 0 3 rfl rfl
         have hk_x_4_10 := S_10.out.cell 0 4 rfl rfl
         have hk_x_5_10 := S_10.out.cell 0 5 rfl rfl
         have hk_x_6_10 := S_10.out.cell 0 6 rfl rfl
         have hk_x_7_10 := S_10.out.cell 0 7 rfl rfl
         have hk_x_8_10 := S_10.out.cell 0 8 rfl rfl
         have hk_x_9_10 := S_10.out.cell 0 9 rfl rfl
         have hk_x_10_10 := S_10.out.cell 0 10 rfl rfl
         have hk_arg0_0_10 := S_10.out.cell 1 0 rfl rfl
         have hk_arg0_1_10 := S_10.out.cell 1 1 rfl rfl
         have hk_arg0_2_10 := S_10.out.cell 1 2 rfl rfl
         have hk_arg0_3_10 := S_10.out.cell 1 3 rfl rfl
         have hk_arg0_4_10 := S_10.out.cell 1 4 rfl rfl
         have hk_arg0_5_10 := S_10.out.cell 1 5 rfl rfl
         have hk_arg0_6_10 := S_10.out.cell 1 6 rfl rfl
         have hk_arg0_7_10 := S_10.out.cell 1 7 rfl rfl
         have hk_arg0_8_10 := S_10.out.cell 1 8 rfl rfl
         have hk_arg0_9_10 := S_10.out.cell 1 9 rfl rfl
         have hk_arg0_10_10 := S_10.out.cell 1 10 rfl rfl))
  have S_11 := Lib.hid (S_10.out.drop 0)
  clear S_10
  go_wp2
  go_ret
  exact ⟨rfl, S_11.out.below⟩

theorem door_met (os : Os) (args : Array Value) : laidMetH Tryz.prog Rows.fnExactFormatLinkRow.laid ((World.doorLaid Tryz.prog 400 os).forCall (fun _ _ => 0) ⟨#[], args, []⟩).memory :=
  laidMetH_of_parts3 (fuel := 8) (laidMet_of_run' 8 (by kernel_rfl) (by kernel_rfl)) (by kernel_rfl) (by kernel_rfl)
set_option maxRecDepth 100000 in
theorem lifted (os : Os) (started : os.Started) (H : Type) (enc : TypeId × Value → H) :
    ReturnsInHanded {} Tryz.checked os 3 .any (fun w args => (Rows.fnExactFormatLinkSpec.pre enc Tryz.prog Tryz.f3 [] false w args ∧ laidMetH Tryz.prog Rows.fnExactFormatLinkRow.laid w) ∧ sizedMet enc Tryz.prog Tryz.f3 (OpenSpec.ofChange Rows.fnExactFormatLinkSpec) false w args)
      (Rows.fnExactFormatLinkSpec.post enc Tryz.prog Tryz.f3 false true false false) := by
  refine returnsInHanded_of_change_and (C := Tryz.checked) (X := fun w _ => laidMetH Tryz.prog Rows.fnExactFormatLinkRow.laid w) (fun _ _ _ hh h => h.of_heap hh) own started (by kernel_rfl) Tryz.func3
    (ChangeSpec.witness_shaped (enc := enc) (C := Tryz.checked) (os := os) (X := fun w _ => laidMetH Tryz.prog Rows.fnExactFormatLinkRow.laid w) false (World.doorLaid Tryz.prog 400 os) #[.agg #[.int .i64 0, .int .i64 0, .bool false, .slice none 0 0, .slice none 0 0, .bool false, .slice none 0 0, .slice none 0 0, .bool false, .slice none 0 0, .slice none 0 0]] 8 rfl (World.shaped_of_RefB (by kernel_rfl) (by kernel_rfl)) (by kernel_rfl) (by kernel_rfl) (by kernel_rfl) (door_met os _)) ?_
  intro W base args ds gs before hval0 hW _ _ hL _
  have hval : ∀ (j : Nat) t v, Tryz.f3.params[j]? = some t → args[j]? = some v → Value.okWide Tryz.prog W .any base t v := hval0
  have hW' := hW
  obtain ⟨p, q, hA0, hV, rfl, hfz, hnd⟩ := hW
  have hA : DataW.TrodAll enc Tryz.prog W 0 (fun _ => true) true Tryz.f3.params.toList args.toList ds p := hA0
  rw [Tryz.params3] at hA hval
  obtain ⟨v0, vs0, d0, ds0, p0, q0, hargs, rfl, rfl, h0, r0⟩ := trodAll_cons hA
  obtain ⟨rfl, rfl, rfl⟩ := trodAll_nil r0
  obtain rfl : args = #[v0] := by cases args; simp_all
  obtain ⟨rfl, rfl⟩ := trodVars_none hV
  have k0 := h0
  have lt0 : ∀ x ∈ p0, x.block < W.heap.size := by obtain ⟨m, hm⟩ := k0; exact DataW.trod_lt m _ _ _ hm
  obtain ⟨A0, B0, P0, Q0, R0, p00, p01, q00, q01, r00, r01, rfl, w0⟩ := isLink_of linkT (hval 0 28 v0 rfl rfl) h0
  clear hA0 hval0
  refine (walk W (laid1_link hL) A0 B0 P0 Q0 R0 p00 p01 q00 q01 r00 r01 w0).mono fun e W' ⟨he, bel⟩ => ?_
  subst he
  exact ⟨_, rfl, _, _, _, [], _, [], hW', trodAll_mk1 (shut_bool Tryz.underlying4 _), (trodAll_cons_mk (Below.trod laidOut (by kernel_rfl) (of_decide_eq_true (by kernel_rfl)) k0 bel lt0) trodAll_mk0), rfl, bel.frame _, fun h => by cases h⟩

theorem over : Rows.fnExactFormatLinkRow.holds Tryz.pinned (OpenSpec.ofChange Rows.fnExactFormatLinkSpec) :=
  OpenClaim.holds_of_wide 3 Tryz.f3 rfl rfl rfl rfl rfl rfl rfl ⟨rfl, rfl, rfl, rfl, rfl⟩ rfl rfl rfl rfl rfl (by kernel_rfl) Tryz.func3 (by kernel_rfl)
    (of_decide_eq_true (by kernel_rfl)) (by unfold Func.isWrapper; first | (rw [if_pos (by decide +kernel)]; kernel_rfl) | (rw [if_neg (by decide +kernel)]; exact ⟨rfl, rfl⟩))
    (fun os started H enc _ => lifted os started H enc)

theorem bare : Rows.FnExactFormatLinkSaid := over
theorem proved : Rows.FnExactFormatLinkCardSaid :=
  Claim7.holds_tied_plain_at .later [] [.data, .data, .data] true (true, "1b688502f8bc4f4ebee73ce8e90d24ec6b1888d067d147d35e63eee927c3dacc") false
    bare (fun _ h => by cases h) (by kernel_rfl) (fun _ h => by cases h) fnExactFormatLink_row_tie rfl ⟨rfl, rfl⟩ (by kernel_rfl) rfl
    (fun f fn hf hfn => by
      obtain rfl : f = 3 := Option.some.inj ((show Tryz.prog.funcNamed "loop.example/g00810/laws.FnExactFormatLink" = some 3 by kernel_rfl).symm.trans hf) |>.symm
      obtain rfl : fn = Tryz.f3 := (Option.some.inj (Tryz.func3.symm.trans hfn)).symm
      exact ⟨by kernel_rfl, fun j t ht => by
        rw [Tryz.params3] at ht
        have hm : t ∈ [28] := by simpa using Array.mem_of_getElem? ht
        have hall : ([28].all fun u => !Tryz.prog.wantsStandIn u) = true := by kernel_rfl
        exact (show Tryz.prog.wantsStandIn t = false by simpa using List.all_eq_true.1 hall t hm)⟩)
    (by kernel_rfl)
#print axioms proved
end Go.Proofs.YtljlibigphgffaaGreatDoor.lawFormatLink
