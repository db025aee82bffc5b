/- Proved: at all integers, impl.NewLink answers as its model spec.NewLink in every result, writes into no argument, its answer owns its memory, the call returns true and changes no memory that was there. Conditions: none. -/
import Derived.Test.YtdilbhkdkppodaaRows
import Derived.Test.YtdilbhkdkppodaaOpen
import Derived.Test.YtdilbhkdkppodaaOpenK
import Derived.Test.YtdilbhkdkppodaaHelpG
import Derived.Test.YtdilbhkdkppodaaHelpH
import Derived.Test.YtdilbhkdkppodaaLk1
import Derived.WalkKit
import Derived.ProofKit
import Derived.OpenShut
import Derived.ShutString
import Derived.ChangeOld
import Derived.Below
namespace Go.Proofs.Ytdilbhkdkppodaa.lawNewLink
open Go.ChangeShapes Go.WideShapes Go.ChangeAt Go.RowKit
open Go.ChangeMaps (open_string shut_string)
set_option linter.unusedVariables false

theorem own : ownKnob Try.prog.godebug = none := by kernel_rfl
theorem laidOut : laidOutB Try.prog = true := by kernel_rfl
open Nt Fr

set_option maxRecDepth 100000 in
set_option maxHeartbeats 4000000 in
theorem walk (W : World) (a0 : Int) (w0 : (Lit.int .i64 a0).wf = true) (a1 : Int) (w1 : (Lit.int .i64 a1).wf = true) (a2 : Int) (w2 : (Lit.int .i64 a2).wf = true) (a3 : Int) (w3 : (Lit.int .i64 a3).wf = true) (a4 : Int) (w4 : (Lit.int .i64 a4).wf = true) :
    Calls Try.prog 4 #[.int .i64 a0, .int .i64 a1, .int .i64 a2, .int .i64 a3, .int .i64 a4] W fun e w' => e = .returned (.bool true) ∧ Below W.heap.size W w' := by
  obtain ⟨RA, hRA⟩ : ∃ z, nlA a0 a1 a2 a3 a4 = z := ⟨_, rfl⟩
  obtain ⟨RB, hRB⟩ : ∃ z, nlB a0 a1 a2 a3 a4 = z := ⟨_, rfl⟩
  obtain ⟨RP, hRP⟩ : ∃ z, nlP a0 a1 a2 a3 a4 = z := ⟨_, rfl⟩
  obtain ⟨RQ, hRQ⟩ : ∃ z, nlQ a0 a1 a2 a3 a4 = z := ⟨_, rfl⟩
  obtain ⟨RR, hRR⟩ : ∃ z, nlR a0 a1 a2 a3 a4 = z := ⟨_, rfl⟩
  obtain ⟨ok, hok⟩ : ∃ z, okN a0 a1 a2 a3 a4 = z := ⟨_, rfl⟩
  have HS := Lib.hid (show ∀ u : World, Calls Try.prog 12 #[.int .i64 a0, .int .i64 a1, .int .i64 a2, .int .i64 a3, .int .i64 a4] u (OwnKB RA RB RP RQ RR ok u) from fun u => by rw [← hRA, ← hRB, ← hRP, ← hRQ, ← hRR, ← hok]; exact newLink_s a0 a1 a2 a3 a4 u)
  have HI := Lib.hid (show ∀ u : World, Calls Try.prog 13 #[.int .i64 a0, .int .i64 a1, .int .i64 a2, .int .i64 a3, .int .i64 a4] u (OwnKB RA RB RP RQ RR ok u) from fun u => by rw [← hRA, ← hRB, ← hRP, ← hRQ, ← hRR, ← hok]; exact newLink_i a0 a1 a2 a3 a4 u)
  have hlen : RP.len + RQ.len + RR.len ≤ 1048576 := by rw [← hRP, ← hRQ, ← hRR]; exact newLink_len a0 a1 a2 a3 a4
  clear hRA hRB hRP hRQ hRR hok
  have hb_0 : -9223372036854775808 ≤ a0 ∧ a0 ≤ 9223372036854775807 := by have h := bounds_i64 w0; omega
  clear w0
  have hb_1 : -9223372036854775808 ≤ a1 ∧ a1 ≤ 9223372036854775807 := by have h := bounds_i64 w1; omega
  clear w1
  have hb_2 : -9223372036854775808 ≤ a2 ∧ a2 ≤ 9223372036854775807 := by have h := bounds_i64 w2; omega
  clear w2
  have hb_3 : -9223372036854775808 ≤ a3 ∧ a3 ≤ 9223372036854775807 := by have h := bounds_i64 w3; omega
  clear w3
  have hb_4 : -9223372036854775808 ≤ a4 ∧ a4 ≤ 9223372036854775807 := by have h := bounds_i64 w4; omega
  clear w4
  have S_1 := Lib.hid (St.start W)
  go_enter Try.func4, Try.ntmps4
  go_wp2_with fail
  refine (HS.out _).mono ?_
  rintro e w1 ⟨v0_w, v1_w, v2_w, v3_w, v4_w, v5_w, rfl, ho, hb⟩
  obtain ⟨A0_w, n0_w, c0_w, rfl⟩ := (ho.at_ 0 rfl).shape3
  obtain ⟨A1_w, n1_w, c1_w, rfl⟩ := (ho.at_ 1 rfl).shape3
  obtain ⟨A2_w, n2_w, c2_w, rfl⟩ := (ho.at_ 2 rfl).shape3
  obtain ⟨A3_w, n3_w, c3_w, rfl⟩ := (ho.at_ 3 rfl).shape3
  obtain ⟨A4_w, n4_w, c4_w, rfl⟩ := (ho.at_ 4 rfl).shape3
  obtain ⟨A5_w, n5_w, c5_w, rfl⟩ := (ho.at_ 5 rfl).shape3
  have S_2 := Lib.hid (S_1.out.rows ho hb)
  clear S_1
  clear ho hb
  go_wp2_with fail
  have S_3 := Lib.hid (S_2.out.alloc [.int .i64 RA, .int .i64 RB, .bool RP.s, (.slice A0_w n0_w c0_w), (.slice A1_w n1_w c1_w), .bool RQ.s, (.slice A2_w n2_w c2_w), (.slice A3_w n3_w c3_w), .bool RR.s, (.slice A4_w n4_w c4_w), (.slice A5_w n5_w c5_w)] 35)
  clear S_2
  refine (HI.out _).mono ?_
  rintro e w2 ⟨v0_g, v1_g, v2_g, v3_g, v4_g, v5_g, rfl, ho, hb⟩
  obtain ⟨A0_g, n0_g, c0_g, rfl⟩ := (ho.at_ 0 rfl).shape3
  obtain ⟨A1_g, n1_g, c1_g, rfl⟩ := (ho.at_ 1 rfl).shape3
  obtain ⟨A2_g, n2_g, c2_g, rfl⟩ := (ho.at_ 2 rfl).shape3
  obtain ⟨A3_g, n3_g, c3_g, rfl⟩ := (ho.at_ 3 rfl).shape3
  obtain ⟨A4_g, n4_g, c4_g, rfl⟩ := (ho.at_ 4 rfl).shape3
  obtain ⟨A5_g, n5_g, c5_g, rfl⟩ := (ho.at_ 5 rfl).shape3
  have S_4 := Lib.hid (S_3.out.rows ho hb)
  clear S_3
  clear ho hb
  have S_5 := Lib.hid (S_4.out.alloc [.int .i64 RA, .int .i64 RB, .bool RP.s, (.slice A0_g n0_g c0_g), (.slice A1_g n1_g c1_g), .bool RQ.s, (.slice A2_g n2_g c2_g), (.slice A3_g n3_g c3_g), .bool RR.s, (.slice A4_g n4_g c4_g), (.slice A5_g n5_g c5_g)] 35)
  clear S_4
  have hne_w_g := S_5.out.ne 1 0 rfl rfl (by decide)
  have hne_g_w := S_5.out.ne 0 1 rfl rfl (by decide)
  have hk_w_0_5 := S_5.out.cell 1 0 rfl rfl
  have hk_w_1_5 := S_5.out.cell 1 1 rfl rfl
  have hk_w_2_5 := S_5.out.cell 1 2 rfl rfl
  have hk_w_3_5 := S_5.out.cell 1 3 rfl rfl
  have hk_w_4_5 := S_5.out.cell 1 4 rfl rfl
  have hk_w_5_5 := S_5.out.cell 1 5 rfl rfl
  have hk_w_6_5 := S_5.out.cell 1 6 rfl rfl
  have hk_w_7_5 := S_5.out.cell 1 7 rfl rfl
  have hk_w_8_5 := S_5.out.cell 1 8 rfl rfl
  have hk_w_9_5 := S_5.out.cell 1 9 rfl rfl
  have hk_w_10_5 := S_5.out.cell 1 10 rfl rfl
  have hk_g_0_5 := S_5.out.cell 0 0 rfl rfl
  have hk_g_1_5 := S_5.out.cell 0 1 rfl rfl
  have hk_g_2_5 := S_5.out.cell 0 2 rfl rfl
  have hk_g_3_5 := S_5.out.cell 0 3 rfl rfl
  have hk_g_4_5 := S_5.out.cell 0 4 rfl rfl
  have hk_g_5_5 := S_5.out.cell 0 5 rfl rfl
  have hk_g_6_5 := S_5.out.cell 0 6 rfl rfl
  have hk_g_7_5 := S_5.out.cell 0 7 rfl rfl
  have hk_g_8_5 := S_5.out.cell 0 8 rfl rfl
  have hk_g_9_5 := S_5.out.cell 0 9 rfl rfl
  have hk_g_10_5 := S_5.out.cell 0 10 rfl rfl
  go_wp2_with fail
  refine (eqLink_f RA RB RP RQ RR (.slice A0_g n0_g c0_g) (.slice A1_g n1_g c1_g) (.slice A2_g n2_g c2_g) (.slice A3_g n3_g c3_g) (.slice A4_g n4_g c4_g) (.slice A5_g n5_g c5_g) (.slice A0_w n0_w c0_w) (.slice A1_w n1_w c1_w) (.slice A2_w n2_w c2_w) (.slice A3_w n3_w c3_w) (.slice A4_w n4_w c4_w) (.slice A5_w n5_w c5_w) _ (S_5.out.lk 0 rfl).i (S_5.out.lk 1 rfl).i).mono ?_
  rintro e w3 ⟨rfl, hb⟩
  have S_6 := Lib.hid (S_5.out.call hb)
  clear S_5
  clear hb
  clear hk_w_0_5 hk_w_1_5 hk_w_2_5 hk_w_3_5 hk_w_4_5 hk_w_5_5 hk_w_6_5 hk_w_7_5 hk_w_8_5 hk_w_9_5 hk_w_10_5 hk_g_0_5 hk_g_1_5 hk_g_2_5 hk_g_3_5 hk_g_4_5 hk_g_5_5 hk_g_6_5 hk_g_7_5 hk_g_8_5 hk_g_9_5 hk_g_10_5
  have hk_g_0_6 := S_6.out.cell 0 0 rfl rfl
  have hk_g_1_6 := S_6.out.cell 0 1 rfl rfl
  have hk_g_2_6 := S_6.out.cell 0 2 rfl rfl
  have hk_g_3_6 := S_6.out.cell 0 3 rfl rfl
  have hk_g_4_6 := S_6.out.cell 0 4 rfl rfl
  have hk_g_5_6 := S_6.out.cell 0 5 rfl rfl
  have hk_g_6_6 := S_6.out.cell 0 6 rfl rfl
  have hk_g_7_6 := S_6.out.cell 0 7 rfl rfl
  have hk_g_8_6 := S_6.out.cell 0 8 rfl rfl
  have hk_g_9_6 := S_6.out.cell 0 9 rfl rfl
  have hk_g_10_6 := S_6.out.cell 0 10 rfl rfl
  go_wp2_with fail
  obtain ⟨m0, hm0⟩ : ∃ z, lenL ([((.slice A0_g n0_g c0_g), ints RP.xs), ((.slice A1_g n1_g c1_g), ints RP.ys), ((.slice A2_g n2_g c2_g), ints RQ.xs), ((.slice A3_g n3_g c3_g), ints RQ.ys), ((.slice A4_g n4_g c4_g), ints RR.xs), ((.slice A5_g n5_g c5_g), ints RR.ys)]) = z := ⟨_, rfl⟩
  have hbm0 : m0 ≤ 2097152 := by rw [← hm0]; simp only [lenL, ints_len]; have := hlen; simp only [Fr.len] at this; omega
  have Hm0 := Lib.hid hm0
  clear hm0
  refine (markLink_f RA RB RP.s RQ.s RR.s (.slice A0_g n0_g c0_g) (.slice A1_g n1_g c1_g) (.slice A2_g n2_g c2_g) (.slice A3_g n3_g c3_g) (.slice A4_g n4_g c4_g) (.slice A5_g n5_g c5_g) (ints RP.xs) (ints RP.ys) (ints RQ.xs) (ints RQ.ys) (ints RR.xs) (ints RR.ys) _ (1) W.heap.size _ (by first | rfl | omega) (S_6.out.own 0 rfl) (by rw [show lenL _ = m0 from Hm0.out]; omega)).mono ?_
  rintro e w4 ⟨rfl, ho, ht⟩
  rw [show lenL _ = m0 from Hm0.out]
  have S_7 := Lib.hid (S_6.out.marked 0 rfl ho ht)
  clear S_6
  clear ho ht
  clear hk_g_0_6 hk_g_1_6 hk_g_2_6 hk_g_3_6 hk_g_4_6 hk_g_5_6 hk_g_6_6 hk_g_7_6 hk_g_8_6 hk_g_9_6 hk_g_10_6
  have hk_g_0_7 := S_7.out.cell 0 0 rfl rfl
  have hk_g_1_7 := S_7.out.cell 0 1 rfl rfl
  have hk_g_2_7 := S_7.out.cell 0 2 rfl rfl
  have hk_g_3_7 := S_7.out.cell 0 3 rfl rfl
  have hk_g_4_7 := S_7.out.cell 0 4 rfl rfl
  have hk_g_5_7 := S_7.out.cell 0 5 rfl rfl
  have hk_g_6_7 := S_7.out.cell 0 6 rfl rfl
  have hk_g_7_7 := S_7.out.cell 0 7 rfl rfl
  have hk_g_8_7 := S_7.out.cell 0 8 rfl rfl
  have hk_g_9_7 := S_7.out.cell 0 9 rfl rfl
  have hk_g_10_7 := S_7.out.cell 0 10 rfl rfl
  go_wp2_with fail
  refine (heldLink_f RA RB RP.s RQ.s RR.s (.slice A0_g n0_g c0_g) (.slice A1_g n1_g c1_g) (.slice A2_g n2_g c2_g) (.slice A3_g n3_g c3_g) (.slice A4_g n4_g c4_g) (.slice A5_g n5_g c5_g) (ints RP.xs) (ints RP.ys) (ints RQ.xs) (ints RQ.ys) (ints RR.xs) (ints RR.ys) _ (1) W.heap.size _ (by first | rfl | omega) (S_7.out.own 0 rfl) (by rw [show lenL _ = m0 from Hm0.out]; omega)).mono ?_
  rintro e w5 ⟨rfl, hb⟩
  rw [show lenL _ = m0 from Hm0.out]
  have S_8 := Lib.hid (S_7.out.call hb)
  clear S_7
  clear hb
  clear hk_g_0_7 hk_g_1_7 hk_g_2_7 hk_g_3_7 hk_g_4_7 hk_g_5_7 hk_g_6_7 hk_g_7_7 hk_g_8_7 hk_g_9_7 hk_g_10_7
  go_wp2_with fail
  refine (HI.out _).mono ?_
  rintro e w6 ⟨v0_h, v1_h, v2_h, v3_h, v4_h, v5_h, rfl, ho, hb⟩
  obtain ⟨A0_h, n0_h, c0_h, rfl⟩ := (ho.at_ 0 rfl).shape3
  obtain ⟨A1_h, n1_h, c1_h, rfl⟩ := (ho.at_ 1 rfl).shape3
  obtain ⟨A2_h, n2_h, c2_h, rfl⟩ := (ho.at_ 2 rfl).shape3
  obtain ⟨A3_h, n3_h, c3_h, rfl⟩ := (ho.at_ 3 rfl).shape3
  obtain ⟨A4_h, n4_h, c4_h, rfl⟩ := (ho.at_ 4 rfl).shape3
  obtain ⟨A5_h, n5_h, c5_h, rfl⟩ := (ho.at_ 5 rfl).shape3
  have S_9 := Lib.hid (S_8.out.rows ho hb)
  clear S_8
  clear ho hb
  have S_10 := Lib.hid (S_9.out.alloc [.int .i64 RA, .int .i64 RB, .bool RP.s, (.slice A0_h n0_h c0_h), (.slice A1_h n1_h c1_h), .bool RQ.s, (.slice A2_h n2_h c2_h), (.slice A3_h n3_h c3_h), .bool RR.s, (.slice A4_h n4_h c4_h), (.slice A5_h n5_h c5_h)] 35)
  clear S_9
  have hne_g_h := S_10.out.ne 1 0 rfl rfl (by decide)
  have hne_h_g := S_10.out.ne 0 1 rfl rfl (by decide)
  have hne_w_h := S_10.out.ne 2 0 rfl rfl (by decide)
  have hne_h_w := S_10.out.ne 0 2 rfl rfl (by decide)
  have hk_w_0_10 := S_10.out.cell 2 0 rfl rfl
  have hk_w_1_10 := S_10.out.cell 2 1 rfl rfl
  have hk_w_2_10 := S_10.out.cell 2 2 rfl rfl
  have hk_w_3_10 := S_10.out.cell 2 3 rfl rfl
  have hk_w_4_10 := S_10.out.cell 2 4 rfl rfl
  have hk_w_5_10 := S_10.out.cell 2 5 rfl rfl
  have hk_w_6_10 := S_10.out.cell 2 6 rfl rfl
  have hk_w_7_10 := S_10.out.cell 2 7 rfl rfl
  have hk_w_8_10 := S_10.out.cell 2 8 rfl rfl
  have hk_w_9_10 := S_10.out.cell 2 9 rfl rfl
  have hk_w_10_10 := S_10.out.cell 2 10 rfl rfl
  have hk_h_0_10 := S_10.out.cell 0 0 rfl rfl
  have hk_h_1_10 := S_10.out.cell 0 1 rfl rfl
  have hk_h_2_10 := S_10.out.cell 0 2 rfl rfl
  have hk_h_3_10 := S_10.out.cell 0 3 rfl rfl
  have hk_h_4_10 := S_10.out.cell 0 4 rfl rfl
  have hk_h_5_10 := S_10.out.cell 0 5 rfl rfl
  have hk_h_6_10 := S_10.out.cell 0 6 rfl rfl
  have hk_h_7_10 := S_10.out.cell 0 7 rfl rfl
  have hk_h_8_10 := S_10.out.cell 0 8 rfl rfl
  have hk_h_9_10 := S_10.out.cell 0 9 rfl rfl
  have hk_h_10_10 := S_10.out.cell 0 10 rfl rfl
  go_wp2_with fail
  refine (eqLink_f RA RB RP RQ RR (.slice A0_h n0_h c0_h) (.slice A1_h n1_h c1_h) (.slice A2_h n2_h c2_h) (.slice A3_h n3_h c3_h) (.slice A4_h n4_h c4_h) (.slice A5_h n5_h c5_h) (.slice A0_w n0_w c0_w) (.slice A1_w n1_w c1_w) (.slice A2_w n2_w c2_w) (.slice A3_w n3_w c3_w) (.slice A4_w n4_w c4_w) (.slice A5_w n5_w c5_w) _ (S_10.out.lk 0 rfl).i (S_10.out.lk 2 rfl).i).mono ?_
  rintro e w7 ⟨rfl, hb⟩
  have S_11 := Lib.hid (S_10.out.call hb)
  clear S_10
  clear hb
  clear hk_w_0_10 hk_w_1_10 hk_w_2_10 hk_w_3_10 hk_w_4_10 hk_w_5_10 hk_w_6_10 hk_w_7_10 hk_w_8_10 hk_w_9_10 hk_w_10_10 hk_h_0_10 hk_h_1_10 hk_h_2_10 hk_h_3_10 hk_h_4_10 hk_h_5_10 hk_h_6_10 hk_h_7_10 hk_h_8_10 hk_h_9_10 hk_h_10_10
  have hk_g_0_11 := S_11.out.cell 1 0 rfl rfl
  have hk_g_1_11 := S_11.out.cell 1 1 rfl rfl
  have hk_g_2_11 := S_11.out.cell 1 2 rfl rfl
  have hk_g_3_11 := S_11.out.cell 1 3 rfl rfl
  have hk_g_4_11 := S_11.out.cell 1 4 rfl rfl
  have hk_g_5_11 := S_11.out.cell 1 5 rfl rfl
  have hk_g_6_11 := S_11.out.cell 1 6 rfl rfl
  have hk_g_7_11 := S_11.out.cell 1 7 rfl rfl
  have hk_g_8_11 := S_11.out.cell 1 8 rfl rfl
  have hk_g_9_11 := S_11.out.cell 1 9 rfl rfl
  have hk_g_10_11 := S_11.out.cell 1 10 rfl rfl
  go_wp2_with fail
  refine (heldLink_f RA RB RP.s RQ.s RR.s (.slice A0_g n0_g c0_g) (.slice A1_g n1_g c1_g) (.slice A2_g n2_g c2_g) (.slice A3_g n3_g c3_g) (.slice A4_g n4_g c4_g) (.slice A5_g n5_g c5_g) (ints RP.xs) (ints RP.ys) (ints RQ.xs) (ints RQ.ys) (ints RR.xs) (ints RR.ys) _ (1) W.heap.size _ (by first | rfl | omega) (S_11.out.own 1 rfl) (by rw [show lenL _ = m0 from Hm0.out]; omega)).mono ?_
  rintro e w8 ⟨rfl, hb⟩
  rw [show lenL _ = m0 from Hm0.out]
  have S_12 := Lib.hid (S_11.out.call hb)
  clear S_11
  clear hb
  clear hk_g_0_11 hk_g_1_11 hk_g_2_11 hk_g_3_11 hk_g_4_11 hk_g_5_11 hk_g_6_11 hk_g_7_11 hk_g_8_11 hk_g_9_11 hk_g_10_11
  go_wp2
  go_ret
  exact ⟨rfl, S_12.out.below⟩

set_option maxRecDepth 100000 in
theorem lifted (os : Os) (started : os.Started) (H : Type) (enc : TypeId × Value → H) :
    ReturnsInHanded {} Try.checked os 4 .any (Rows.fnExactNewLinkSpec.pre6 enc Try.prog Try.f4 Rows.fnExactNewLinkRow.domain false) (Rows.fnExactNewLinkSpec.post enc Try.prog Try.f4 false true false false) := by
  refine returnsInHanded_of_change (C := Try.checked) own started (by kernel_rfl) Try.func4
    (ChangeSpec.witness6 (enc := enc) (C := Try.checked) false ⟨#[], #[.int .i64 0, .int .i64 0, .int .i64 0, .int .i64 0, .int .i64 0], []⟩ 8 (by kernel_rfl) (by kernel_rfl) (by kernel_rfl) (by kernel_rfl)) ?_
  intro W base args ds gs before hval0 hW hcnd _
  have hval : ∀ (j : Nat) t v, Try.f4.params[j]? = some t → args[j]? = some v → Value.okWide Try.prog W .any base t v := hval0
  have hW' := hW
  obtain ⟨p, q, hA0, hV, rfl, hfz, hnd⟩ := hW
  have hA : DataW.TrodAll enc Try.prog W 0 (fun _ => true) true Try.f4.params.toList args.toList ds p := hA0
  rw [Try.params4] at hA hval
  obtain ⟨v0, vs0, d0, ds0, p0, q0, hargs, rfl, rfl, h0, r0⟩ := trodAll_cons hA
  obtain ⟨v1, vs1, d1, ds1, p1, q1, rfl, rfl, rfl, h1, r1⟩ := trodAll_cons r0
  obtain ⟨v2, vs2, d2, ds2, p2, q2, rfl, rfl, rfl, h2, r2⟩ := trodAll_cons r1
  obtain ⟨v3, vs3, d3, ds3, p3, q3, rfl, rfl, rfl, h3, r3⟩ := trodAll_cons r2
  obtain ⟨v4, vs4, d4, ds4, p4, q4, rfl, rfl, rfl, h4, r4⟩ := trodAll_cons r3
  obtain ⟨rfl, rfl, rfl⟩ := trodAll_nil r4
  obtain rfl : args = #[v0, v1, v2, v3, v4] := by cases args; simp_all
  obtain ⟨rfl, rfl⟩ := trodVars_none hV
  obtain ⟨a0, rfl, rfl, rfl, w0⟩ := open_int Try.underlying3 (hval 0 3 v0 rfl rfl) h0
  obtain ⟨a1, rfl, rfl, rfl, w1⟩ := open_int Try.underlying3 (hval 1 3 v1 rfl rfl) h1
  obtain ⟨a2, rfl, rfl, rfl, w2⟩ := open_int Try.underlying3 (hval 2 3 v2 rfl rfl) h2
  obtain ⟨a3, rfl, rfl, rfl, w3⟩ := open_int Try.underlying3 (hval 3 3 v3 rfl rfl) h3
  obtain ⟨a4, rfl, rfl, rfl, w4⟩ := open_int Try.underlying3 (hval 4 3 v4 rfl rfl) h4
  clear hA0 hval0
  refine (walk W a0 w0 a1 w1 a2 w2 a3 w3 a4 w4).mono fun e W' ⟨he, bel⟩ => ?_
  subst he
  exact ⟨_, rfl, _, _, _, [], _, [], hW', trodAll_mk1 (shut_bool Try.underlying4 _), (trodAll_cons_mk (shut_int Try.underlying3 w0) (trodAll_cons_mk (shut_int Try.underlying3 w1) (trodAll_cons_mk (shut_int Try.underlying3 w2) (trodAll_cons_mk (shut_int Try.underlying3 w3) (trodAll_cons_mk (shut_int Try.underlying3 w4) trodAll_mk0))))), rfl, bel.frame _, fun h => by cases h⟩

theorem over : Rows.fnExactNewLinkRow.holds Try.pinned (OpenSpec.ofChange Rows.fnExactNewLinkSpec) :=
  OpenClaim.holds_of_wide 4 Try.f4 rfl rfl rfl rfl rfl rfl rfl ⟨rfl, rfl, rfl, rfl, rfl⟩ rfl rfl rfl rfl rfl (by kernel_rfl) Try.func4 (by kernel_rfl)
    (of_decide_eq_true (by kernel_rfl)) (by unfold Func.isWrapper; first | (rw [if_pos (by decide +kernel)]; kernel_rfl) | (rw [if_neg (by decide +kernel)]; exact ⟨rfl, rfl⟩))
    (fun os started H enc _ => lifted os started H enc)

theorem proved : Rows.FnExactNewLinkSaid := over
#print axioms proved
end Go.Proofs.Ytdilbhkdkppodaa.lawNewLink
