/- Proved: at every two conditionals, impl.SameConditional answers as its model spec.SameConditional, writes into no argument, the call returns true and changes no memory that was there. Conditions: none. -/
import Derived.Test.YtpdggdakkdenoaaRows
import Derived.Test.YtpdggdakkdenoaaB1
import Derived.Test.YtpdggdakkdenoaaOpenL
import Derived.Test.YtpdggdakkdenoaaCond
import Derived.Test.YtpdggdakkdenoaaCSame
import Derived.Test.YtpdggdakkdenoaaHand
import Derived.WalkKit
import Derived.ProofKit
import Derived.OpenShut
import Derived.ShutString
import Derived.ChangeOld
import Derived.Below
namespace Go.Proofs.Ytpdggdakkdenoaa.lawSameConditional
open Go.ChangeShapes Go.WideShapes Go.ChangeAt Go.RowKit
open Go.ChangeMaps (open_string shut_string)
set_option linter.unusedVariables false

theorem own : ownKnob Try.prog.godebug = none := by kernel_rfl
theorem laidOut : laidOutB Try.prog = true := by kernel_rfl
open Nt Fr

set_option maxRecDepth 100000 in
set_option maxHeartbeats 4000000 in
theorem walk (W : World) (N0 : Int) (T0 : Fr) (t00 t01 : Value) (a0 : Option Addr) (len0 cap0 : Nat) (z0 : List Rc) (w0 : FrI W T0 t00 t01 ∧ PaRow W a0 len0 z0 ∧ len0 ≤ cap0 ∧ cap0 ≤ maxLen) (N1 : Int) (T1 : Fr) (t10 t11 : Value) (a1 : Option Addr) (len1 cap1 : Nat) (z1 : List Rc) (w1 : FrI W T1 t10 t11 ∧ PaRow W a1 len1 z1 ∧ len1 ≤ cap1 ∧ cap1 ≤ maxLen) :
    Calls Try.prog 3 #[.agg #[.int .i64 N0, .bool T0.s, t00, t01, .slice a0 len0 cap0], .agg #[.int .i64 N1, .bool T1.s, t10, t11, .slice a1 len1 cap1]] W fun e w' => e = .returned (.bool true) ∧ Below W.heap.size W w' := by
  obtain ⟨hT, hA, hcap, hcm⟩ := w0
  have hlm0 : len0 ≤ 9223372036854775807 := by unfold maxLen at hcm; omega
  have HT0 := Lib.hid hT
  have HZ0 := Lib.hid hA.len
  have HA0 := Lib.hid hA
  clear hT hA hcap hcm
  obtain ⟨hT, hA, hcap, hcm⟩ := w1
  have hlm1 : len1 ≤ 9223372036854775807 := by unfold maxLen at hcm; omega
  have HT1 := Lib.hid hT
  have HZ1 := Lib.hid hA.len
  have HA1 := Lib.hid hA
  clear hT hA hcap hcm
  have S_1 := Lib.hid (show St W ((W.alloc (.cells #[.int .i64 N0, .bool T0.s, t00, t01, (.slice a0 len0 cap0)] 29)).alloc (.cells #[.int .i64 N1, .bool T1.s, t10, t11, (.slice a1 len1 cap1)] 29)) [(W.heap.size + 1, [.int .i64 N1, .bool T1.s, t10, t11, (.slice a1 len1 cap1)]), (W.heap.size, [.int .i64 N0, .bool T0.s, t00, t01, (.slice a0 len0 cap0)])] [] from (((St.start W).alloc_at (b := W.heap.size) [.int .i64 N0, .bool T0.s, t00, t01, (.slice a0 len0 cap0)] 29 (by first | rfl | simp)).alloc_at (b := W.heap.size + 1) [.int .i64 N1, .bool T1.s, t10, t11, (.slice a1 len1 cap1)] 29 (by first | rfl | simp)))
  have hne_arg1_arg0 : W.heap.size + 1 ≠ W.heap.size := by omega
  have hne_arg0_arg1 : W.heap.size ≠ W.heap.size + 1 := by omega
  go_enter Try.func3, Try.ntmps3
  go_wp2_with fail
  refine (szConditional_f N0 T0 t00 t01 a0 len0 cap0 z0 _ 1048576 (by omega) (by omega) (S_1.out.frI HT0.out) (HA0.out.below S_1.out.below) hlm0).mono ?_
  rintro e w1_ ⟨rfl, hb⟩
  have S_2 := Lib.hid (S_1.out.call hb)
  clear S_1
  clear hb
  by_cases hs0 : (1048576 : Int) < ((T0.len + len0 + lensR z0 : Nat) : Int)
  · rw [szOf_neg hs0]
    go_wp2
    go_ret
    exact ⟨rfl, S_2.out.below⟩
  rw [szOf_pos hs0]
  obtain ⟨left0, hq0⟩ : ∃ q : Int, 1048576 - ((T0.len + len0 + lensR z0 : Nat) : Int) = q := ⟨_, rfl⟩
  have hl0 : 0 ≤ left0 ∧ left0 ≤ 1048576 ∧ T0.len + len0 + lensR z0 ≤ 1048576 := by omega
  rw [hq0]
  have HN0 := Lib.hid hl0.2.2
  have hn0 : len0 ≤ 1048576 := by omega
  clear hq0 hs0
  have hk_arg1_0_2 := S_2.out.cell 0 0 rfl rfl
  have hk_arg1_1_2 := S_2.out.cell 0 1 rfl rfl
  have hk_arg1_2_2 := S_2.out.cell 0 2 rfl rfl
  have hk_arg1_3_2 := S_2.out.cell 0 3 rfl rfl
  have hk_arg1_4_2 := S_2.out.cell 0 4 rfl rfl
  go_wp2_with fail
  refine (szConditional_f N1 T1 t10 t11 a1 len1 cap1 z1 _ left0 (by omega) (by omega) (S_2.out.frI HT1.out) (HA1.out.below S_2.out.below) hlm1).mono ?_
  rintro e w2_ ⟨rfl, hb⟩
  have S_3 := Lib.hid (S_2.out.call hb)
  clear S_2
  clear hb
  clear hk_arg1_0_2 hk_arg1_1_2 hk_arg1_2_2 hk_arg1_3_2 hk_arg1_4_2
  by_cases hs1 : (left0 : Int) < ((T1.len + len1 + lensR z1 : Nat) : Int)
  · rw [szOf_neg hs1]
    go_wp2
    go_ret
    exact ⟨rfl, S_3.out.below⟩
  rw [szOf_pos hs1]
  obtain ⟨left1, hq1⟩ : ∃ q : Int, left0 - ((T1.len + len1 + lensR z1 : Nat) : Int) = q := ⟨_, rfl⟩
  have hl1 : 0 ≤ left1 ∧ left1 ≤ 1048576 ∧ T1.len + len1 + lensR z1 ≤ 1048576 := by omega
  rw [hq1]
  have HN1 := Lib.hid hl1.2.2
  have hn1 : len1 ≤ 1048576 := by omega
  clear hq1 hs1
  obtain ⟨ok, hok⟩ : ∃ q, sameC N0 T0 (dats z0) N1 T1 (dats z1) = q := ⟨_, rfl⟩
  have HOK := Lib.hid hok
  clear hok
  have hk_arg0_0_3 := S_3.out.cell 1 0 rfl rfl
  have hk_arg0_1_3 := S_3.out.cell 1 1 rfl rfl
  have hk_arg0_2_3 := S_3.out.cell 1 2 rfl rfl
  have hk_arg0_3_3 := S_3.out.cell 1 3 rfl rfl
  have hk_arg0_4_3 := S_3.out.cell 1 4 rfl rfl
  have hk_arg1_0_3 := S_3.out.cell 0 0 rfl rfl
  have hk_arg1_1_3 := S_3.out.cell 0 1 rfl rfl
  have hk_arg1_2_3 := S_3.out.cell 0 2 rfl rfl
  have hk_arg1_3_3 := S_3.out.cell 0 3 rfl rfl
  have hk_arg1_4_3 := S_3.out.cell 0 4 rfl rfl
  go_wp2
  clear hk_arg0_0_3 hk_arg0_1_3 hk_arg0_2_3 hk_arg0_3_3 hk_arg0_4_3 hk_arg1_0_3 hk_arg1_1_3 hk_arg1_2_3 hk_arg1_3_3 hk_arg1_4_3
  have mkS_4 : ∀ (w' : World) (cs' : List Chunk), St W w' [(W.heap.size + 1, [.int .i64 N1, .bool T1.s, t10, t11, (.slice a1 len1 cap1)]), (W.heap.size, [.int .i64 N0, .bool T0.s, t00, t01, (.slice a0 len0 cap0)])] cs' → w'.cell? ⟨W.heap.size + 1, 0, none⟩ = some (.int .i64 N1) ∧ w'.cell? ⟨W.heap.size + 1, 1, none⟩ = some (.bool T1.s) ∧ w'.cell? ⟨W.heap.size + 1, 2, none⟩ = some (t10) ∧ w'.cell? ⟨W.heap.size + 1, 3, none⟩ = some (t11) ∧ w'.cell? ⟨W.heap.size + 1, 4, none⟩ = some ((.slice a1 len1 cap1)) ∧ w'.cell? ⟨W.heap.size, 0, none⟩ = some (.int .i64 N0) ∧ w'.cell? ⟨W.heap.size, 1, none⟩ = some (.bool T0.s) ∧ w'.cell? ⟨W.heap.size, 2, none⟩ = some (t00) ∧ w'.cell? ⟨W.heap.size, 3, none⟩ = some (t01) ∧ w'.cell? ⟨W.heap.size, 4, none⟩ = some ((.slice a0 len0 cap0)) := fun w' cs' h => ⟨h.cell 0 0 rfl rfl, h.cell 0 1 rfl rfl, h.cell 0 2 rfl rfl, h.cell 0 3 rfl rfl, h.cell 0 4 rfl rfl, h.cell 1 0 rfl rfl, h.cell 1 1 rfl rfl, h.cell 1 2 rfl rfl, h.cell 1 3 rfl rfl, h.cell 1 4 rfl rfl⟩
  refine wp_region_noPanic ?_
  refine wp_region_held_drew (S := (fun w' => w'.cell? ⟨W.heap.size + 1, 0, none⟩ = some (.int .i64 N1) ∧ w'.cell? ⟨W.heap.size + 1, 1, none⟩ = some (.bool T1.s) ∧ w'.cell? ⟨W.heap.size + 1, 2, none⟩ = some (t10) ∧ w'.cell? ⟨W.heap.size + 1, 3, none⟩ = some (t11) ∧ w'.cell? ⟨W.heap.size + 1, 4, none⟩ = some ((.slice a1 len1 cap1)) ∧ w'.cell? ⟨W.heap.size, 0, none⟩ = some (.int .i64 N0) ∧ w'.cell? ⟨W.heap.size, 1, none⟩ = some (.bool T0.s) ∧ w'.cell? ⟨W.heap.size, 2, none⟩ = some (t00) ∧ w'.cell? ⟨W.heap.size, 3, none⟩ = some (t01) ∧ w'.cell? ⟨W.heap.size, 4, none⟩ = some ((.slice a0 len0 cap0)))) (by kernel_rfl) ?_ (fun hHeld => ?_)
  · exact mkS_4 _ _ S_3.out.drew
  refine tkH 0 ?_ ⟨some 20, .load 29 (.tmp 2), 29, "exact.go:5335", #[], none⟩ ?_ ?_
  rotate_left
  · intro w9 hSw; (try dsimp only at hSw); go_simp; try with_reducible rfl
  try simp only [pm, s0, sS]
  refine tkH 2 ?_ ⟨some 22, .load 29 (.tmp 3), 29, "exact.go:5335", #[], none⟩ ?_ ?_
  rotate_left
  · intro w9 hSw; (try dsimp only at hSw); go_simp; try with_reducible rfl
  try simp only [pm, s0, sS]
  refine wpAnyH_ready (rs := [1]) (by kernel_rfl) (by simp) ?_
  refine AllReadyH.cons (o := ⟨some 21, .call { callee := .value (.func 6), args := #[.tmp 20], argTypes := #[29] }, 37, "exact.go:5335", #[⟨0, .data⟩], none⟩) rfl (fun K hK => ?_) AllReadyH.nil
  go_simp
  go_at_call 6
  refine (toConditional_f N0 T0 t00 t01 a0 len0 cap0 z0 _ (S_3.out.drew.frI HT0.out) (HA0.out.below S_3.out.drew.below) HN0.out).mono ?_
  rintro e w3_ ⟨pt, qt, bt, yt, rfl, hd, hsh, hst⟩
  obtain ⟨At, nt, ct, rfl⟩ := ((hst.own 1 rfl).at_ 0 rfl).shape3
  obtain ⟨Bt, mt, dt, rfl⟩ := ((hst.own 1 rfl).at_ 1 rfl).shape3
  rw [HZ0.out]
  have HDt := Lib.hid hd
  have HSt := Lib.hid hsh
  have HYt := Lib.hid (show yt.length = len0 by rw [← dats_len, hd, dats_len]; exact HZ0.out)
  have S_4 := Lib.hid (S_3.out.drew.over hst)
  clear hd hsh hst S_3
  refine hK.out _ _ (⟨S_4.out.cell 1 0 rfl rfl, S_4.out.cell 1 1 rfl rfl, S_4.out.cell 1 2 rfl rfl, S_4.out.cell 1 3 rfl rfl, S_4.out.cell 1 4 rfl rfl, S_4.out.cell 2 0 rfl rfl, S_4.out.cell 2 1 rfl rfl, S_4.out.cell 2 2 rfl rfl, S_4.out.cell 2 3 rfl rfl, S_4.out.cell 2 4 rfl rfl⟩) (fun hHeld1 => ?_)
  clear hK K
  try simp only [pm, s0, sS]
  refine wpAnyH_ready (rs := [3]) (by kernel_rfl) (by simp) ?_
  refine AllReadyH.cons (o := ⟨some 23, .call { callee := .value (.func 6), args := #[.tmp 22], argTypes := #[29] }, 37, "exact.go:5335", #[⟨2, .data⟩, ⟨1, .chain⟩], none⟩) rfl (fun K hK => ?_) AllReadyH.nil
  go_simp
  go_at_call 6
  refine (toConditional_f N1 T1 t10 t11 a1 len1 cap1 z1 _ (S_4.out.frI HT1.out) (HA1.out.below S_4.out.below) HN1.out).mono ?_
  rintro e w4_ ⟨pr, qr, br, yr, rfl, hd, hsh, hst⟩
  obtain ⟨Ar, nr, cr, rfl⟩ := ((hst.own 1 rfl).at_ 0 rfl).shape3
  obtain ⟨Br, mr, dr, rfl⟩ := ((hst.own 1 rfl).at_ 1 rfl).shape3
  rw [HZ1.out]
  have HDr := Lib.hid hd
  have HSr := Lib.hid hsh
  have HYr := Lib.hid (show yr.length = len1 by rw [← dats_len, hd, dats_len]; exact HZ1.out)
  have S_5 := Lib.hid (S_4.out.over hst)
  clear hd hsh hst S_4
  refine hK.out _ _ (⟨S_5.out.cell 2 0 rfl rfl, S_5.out.cell 2 1 rfl rfl, S_5.out.cell 2 2 rfl rfl, S_5.out.cell 2 3 rfl rfl, S_5.out.cell 2 4 rfl rfl, S_5.out.cell 3 0 rfl rfl, S_5.out.cell 3 1 rfl rfl, S_5.out.cell 3 2 rfl rfl, S_5.out.cell 3 3 rfl rfl, S_5.out.cell 3 4 rfl rfl⟩) (fun hHeld3 => ?_)
  clear hK K
  try simp only [pm, s0, sS]
  refine wpAnyH_ready (rs := [4]) (by kernel_rfl) (by simp) ?_
  refine AllReadyH.cons (o := ⟨some 24, .call { callee := .value (.func 5), args := #[.tmp 21, .tmp 23], argTypes := #[37, 37] }, 4, "exact.go:5335", #[⟨1, .data⟩, ⟨3, .data⟩, ⟨3, .chain⟩], none⟩) rfl (fun K hK => ?_) AllReadyH.nil
  go_simp
  go_at_call 5
  refine (sameConditional_s N0 T0 (.slice At nt ct) (.slice Bt mt dt) (some ⟨bt, 0, none⟩) len0 len0 yt N1 T1 (.slice Ar nr cr) (.slice Br mr dr) (some ⟨br, 0, none⟩) len1 len1 yr _ (S_5.out.fr 3 0 rfl rfl rfl) (S_5.out.fr 1 0 rfl rfl rfl) (HYt.out ▸ S_5.out.rarg 1 2 HSt.out rfl rfl rfl) (HYr.out ▸ S_5.out.rarg 0 0 HSr.out rfl rfl rfl) hn0 hn1).mono ?_
  rintro e w5_ ⟨rfl, hb⟩
  rw [HDt.out, HDr.out, HOK.out]
  have S_6 := Lib.hid (S_5.out.call hb)
  clear hb S_5
  refine hK.out _ _ (⟨S_6.out.cell 2 0 rfl rfl, S_6.out.cell 2 1 rfl rfl, S_6.out.cell 2 2 rfl rfl, S_6.out.cell 2 3 rfl rfl, S_6.out.cell 2 4 rfl rfl, S_6.out.cell 3 0 rfl rfl, S_6.out.cell 3 1 rfl rfl, S_6.out.cell 3 2 rfl rfl, S_6.out.cell 3 3 rfl rfl, S_6.out.cell 3 4 rfl rfl⟩) (fun hHeld4 => ?_)
  clear hK K
  try simp only [pm, s0, sS]
  refine tkH 5 ?_ ⟨some 6, .assign (.tmp 24), 4, "exact.go:5335", #[⟨4, .data⟩, ⟨4, .chain⟩, ⟨0, .phase⟩, ⟨1, .phase⟩, ⟨2, .phase⟩, ⟨3, .phase⟩, ⟨4, .phase⟩], none⟩ ?_ ?_
  rotate_left
  · intro w9 hSw; (try dsimp only at hSw); go_simp; try with_reducible rfl
  try simp only [pm, s0, sS]
  refine wpAnyH_done (by kernel_rfl) ?_ _
  refine NoPanic.normal ?_
  have S_7 := Lib.hid (((S_6.out.dropBox 1).drop 2).drop 2)
  clear S_6
  have S_8 := Lib.hid (((S_7.out.dropBox 0).drop 0).drop 0)
  clear S_7
  have hk_arg0_0_8 := S_8.out.cell 1 0 rfl rfl
  have hk_arg0_1_8 := S_8.out.cell 1 1 rfl rfl
  have hk_arg0_2_8 := S_8.out.cell 1 2 rfl rfl
  have hk_arg0_3_8 := S_8.out.cell 1 3 rfl rfl
  have hk_arg0_4_8 := S_8.out.cell 1 4 rfl rfl
  go_wp2_with fail
  clear hk_arg0_0_8 hk_arg0_1_8 hk_arg0_2_8 hk_arg0_3_8 hk_arg0_4_8
  refine (toConditional_f N0 T0 t00 t01 a0 len0 cap0 z0 _ (S_8.out.frI HT0.out) (HA0.out.below S_8.out.below) HN0.out).mono ?_
  rintro e w6_ ⟨px, qx, bx, yx, rfl, hd, hsh, hst⟩
  obtain ⟨Ax, nx, cx, rfl⟩ := ((hst.own 1 rfl).at_ 0 rfl).shape3
  obtain ⟨Bx, mx, dx, rfl⟩ := ((hst.own 1 rfl).at_ 1 rfl).shape3
  rw [HZ0.out]
  have HDx := Lib.hid hd
  have HSx := Lib.hid hsh
  have HYx := Lib.hid (show yx.length = len0 by rw [← dats_len, hd, dats_len]; exact HZ0.out)
  have S_9 := Lib.hid (S_8.out.over hst)
  clear S_8
  clear hd hsh hst
  have S_10 := Lib.hid (S_9.out.alloc [.int .i64 N0, .bool T0.s, (.slice Ax nx cx), (.slice Bx mx dx), (.slice (some ⟨bx, 0, none⟩) len0 len0)] 37)
  clear S_9
  have hne_x_vx := S_10.out.ne 1 0 rfl rfl (by decide)
  have hne_vx_x := S_10.out.ne 0 1 rfl rfl (by decide)
  have hne_arg1_vx := S_10.out.ne 2 0 rfl rfl (by decide)
  have hne_vx_arg1 := S_10.out.ne 0 2 rfl rfl (by decide)
  have hne_arg0_vx := S_10.out.ne 3 0 rfl rfl (by decide)
  have hne_vx_arg0 := S_10.out.ne 0 3 rfl rfl (by decide)
  have hk_arg1_0_10 := S_10.out.cell 2 0 rfl rfl
  have hk_arg1_1_10 := S_10.out.cell 2 1 rfl rfl
  have hk_arg1_2_10 := S_10.out.cell 2 2 rfl rfl
  have hk_arg1_3_10 := S_10.out.cell 2 3 rfl rfl
  have hk_arg1_4_10 := S_10.out.cell 2 4 rfl rfl
  go_wp2_with fail
  clear hk_arg1_0_10 hk_arg1_1_10 hk_arg1_2_10 hk_arg1_3_10 hk_arg1_4_10
  refine (toConditional_f N1 T1 t10 t11 a1 len1 cap1 z1 _ (S_10.out.frI HT1.out) (HA1.out.below S_10.out.below) HN1.out).mono ?_
  rintro e w7_ ⟨pg, qg, bg, yg, rfl, hd, hsh, hst⟩
  obtain ⟨Ag, ng, cg, rfl⟩ := ((hst.own 1 rfl).at_ 0 rfl).shape3
  obtain ⟨Bg, mg, dg, rfl⟩ := ((hst.own 1 rfl).at_ 1 rfl).shape3
  rw [HZ1.out]
  have HDg := Lib.hid hd
  have HSg := Lib.hid hsh
  have HYg := Lib.hid (show yg.length = len1 by rw [← dats_len, hd, dats_len]; exact HZ1.out)
  have S_11 := Lib.hid (S_10.out.over hst)
  clear S_10
  clear hd hsh hst
  have S_12 := Lib.hid (S_11.out.alloc [.int .i64 N1, .bool T1.s, (.slice Ag ng cg), (.slice Bg mg dg), (.slice (some ⟨bg, 0, none⟩) len1 len1)] 37)
  clear S_11
  have hne_g_vg := S_12.out.ne 1 0 rfl rfl (by decide)
  have hne_vg_g := S_12.out.ne 0 1 rfl rfl (by decide)
  have hne_vx_vg := S_12.out.ne 2 0 rfl rfl (by decide)
  have hne_vg_vx := S_12.out.ne 0 2 rfl rfl (by decide)
  have hne_x_vg := S_12.out.ne 3 0 rfl rfl (by decide)
  have hne_vg_x := S_12.out.ne 0 3 rfl rfl (by decide)
  have hne_arg1_vg := S_12.out.ne 4 0 rfl rfl (by decide)
  have hne_vg_arg1 := S_12.out.ne 0 4 rfl rfl (by decide)
  have hne_arg0_vg := S_12.out.ne 5 0 rfl rfl (by decide)
  have hne_vg_arg0 := S_12.out.ne 0 5 rfl rfl (by decide)
  have hk_vx_0_12 := S_12.out.cell 2 0 rfl rfl
  have hk_vx_1_12 := S_12.out.cell 2 1 rfl rfl
  have hk_vx_2_12 := S_12.out.cell 2 2 rfl rfl
  have hk_vx_3_12 := S_12.out.cell 2 3 rfl rfl
  have hk_vx_4_12 := S_12.out.cell 2 4 rfl rfl
  have hk_vg_0_12 := S_12.out.cell 0 0 rfl rfl
  have hk_vg_1_12 := S_12.out.cell 0 1 rfl rfl
  have hk_vg_2_12 := S_12.out.cell 0 2 rfl rfl
  have hk_vg_3_12 := S_12.out.cell 0 3 rfl rfl
  have hk_vg_4_12 := S_12.out.cell 0 4 rfl rfl
  go_wp2_with fail
  clear hk_vx_0_12 hk_vx_1_12 hk_vx_2_12 hk_vx_3_12 hk_vx_4_12 hk_vg_0_12 hk_vg_1_12 hk_vg_2_12 hk_vg_3_12 hk_vg_4_12
  refine (sameConditional_i N0 T0 (.slice Ax nx cx) (.slice Bx mx dx) (some ⟨bx, 0, none⟩) len0 len0 yx N1 T1 (.slice Ag ng cg) (.slice Bg mg dg) (some ⟨bg, 0, none⟩) len1 len1 yg _ (S_12.out.fr 3 0 rfl rfl rfl) (S_12.out.fr 1 0 rfl rfl rfl) (HYx.out ▸ S_12.out.rarg 3 2 HSx.out rfl rfl rfl) (HYg.out ▸ S_12.out.rarg 1 0 HSg.out rfl rfl rfl) hn0 hn1).mono ?_
  rintro e w8_ ⟨rfl, hb⟩
  have S_13 := Lib.hid (S_12.out.call hb)
  clear S_12
  clear hb
  rw [HDx.out, HDg.out, HOK.out]
  have hk_vx_0_13 := S_13.out.cell 2 0 rfl rfl
  have hk_vx_1_13 := S_13.out.cell 2 1 rfl rfl
  have hk_vx_2_13 := S_13.out.cell 2 2 rfl rfl
  have hk_vx_3_13 := S_13.out.cell 2 3 rfl rfl
  have hk_vx_4_13 := S_13.out.cell 2 4 rfl rfl
  have hk_arg0_0_13 := S_13.out.cell 5 0 rfl rfl
  have hk_arg0_1_13 := S_13.out.cell 5 1 rfl rfl
  have hk_arg0_2_13 := S_13.out.cell 5 2 rfl rfl
  have hk_arg0_3_13 := S_13.out.cell 5 3 rfl rfl
  have hk_arg0_4_13 := S_13.out.cell 5 4 rfl rfl
  go_wp2
  clear hk_vx_0_13 hk_vx_1_13 hk_vx_2_13 hk_vx_3_13 hk_vx_4_13 hk_arg0_0_13 hk_arg0_1_13 hk_arg0_2_13 hk_arg0_3_13 hk_arg0_4_13
  have mkS_14 : ∀ (w' : World) (cs' : List Chunk), St W w' [(w7_.heap.size, [.int .i64 N1, .bool T1.s, (.slice Ag ng cg), (.slice Bg mg dg), (.slice (some ⟨bg, 0, none⟩) len1 len1)]), (bg, cellsR yg), (w6_.heap.size, [.int .i64 N0, .bool T0.s, (.slice Ax nx cx), (.slice Bx mx dx), (.slice (some ⟨bx, 0, none⟩) len0 len0)]), (bx, cellsR yx), (W.heap.size + 1, [.int .i64 N1, .bool T1.s, t10, t11, (.slice a1 len1 cap1)]), (W.heap.size, [.int .i64 N0, .bool T0.s, t00, t01, (.slice a0 len0 cap0)])] cs' → w'.cell? ⟨w6_.heap.size, 0, none⟩ = some (.int .i64 N0) ∧ w'.cell? ⟨w6_.heap.size, 1, none⟩ = some (.bool T0.s) ∧ w'.cell? ⟨w6_.heap.size, 2, none⟩ = some ((.slice Ax nx cx)) ∧ w'.cell? ⟨w6_.heap.size, 3, none⟩ = some ((.slice Bx mx dx)) ∧ w'.cell? ⟨w6_.heap.size, 4, none⟩ = some ((.slice (some ⟨bx, 0, none⟩) len0 len0)) ∧ w'.cell? ⟨W.heap.size, 0, none⟩ = some (.int .i64 N0) ∧ w'.cell? ⟨W.heap.size, 1, none⟩ = some (.bool T0.s) ∧ w'.cell? ⟨W.heap.size, 2, none⟩ = some (t00) ∧ w'.cell? ⟨W.heap.size, 3, none⟩ = some (t01) ∧ w'.cell? ⟨W.heap.size, 4, none⟩ = some ((.slice a0 len0 cap0)) := fun w' cs' h => ⟨h.cell 2 0 rfl rfl, h.cell 2 1 rfl rfl, h.cell 2 2 rfl rfl, h.cell 2 3 rfl rfl, h.cell 2 4 rfl rfl, h.cell 5 0 rfl rfl, h.cell 5 1 rfl rfl, h.cell 5 2 rfl rfl, h.cell 5 3 rfl rfl, h.cell 5 4 rfl rfl⟩
  refine wp_region_noPanic ?_
  refine wp_region_held_drew (S := (fun w' => w'.cell? ⟨w6_.heap.size, 0, none⟩ = some (.int .i64 N0) ∧ w'.cell? ⟨w6_.heap.size, 1, none⟩ = some (.bool T0.s) ∧ w'.cell? ⟨w6_.heap.size, 2, none⟩ = some ((.slice Ax nx cx)) ∧ w'.cell? ⟨w6_.heap.size, 3, none⟩ = some ((.slice Bx mx dx)) ∧ w'.cell? ⟨w6_.heap.size, 4, none⟩ = some ((.slice (some ⟨bx, 0, none⟩) len0 len0)) ∧ w'.cell? ⟨W.heap.size, 0, none⟩ = some (.int .i64 N0) ∧ w'.cell? ⟨W.heap.size, 1, none⟩ = some (.bool T0.s) ∧ w'.cell? ⟨W.heap.size, 2, none⟩ = some (t00) ∧ w'.cell? ⟨W.heap.size, 3, none⟩ = some (t01) ∧ w'.cell? ⟨W.heap.size, 4, none⟩ = some ((.slice a0 len0 cap0)))) (by kernel_rfl) ?_ (fun hHeld => ?_)
  · exact mkS_14 _ _ S_13.out.drew
  refine tkH 0 ?_ ⟨some 35, .load 37 (.tmp 7), 37, "exact.go:5342", #[], none⟩ ?_ ?_
  rotate_left
  · intro w9 hSw; (try dsimp only at hSw); go_simp; try with_reducible rfl
  try simp only [pm, s0, sS]
  refine tkH 1 ?_ ⟨some 36, .load 29 (.tmp 2), 29, "exact.go:5342", #[], none⟩ ?_ ?_
  rotate_left
  · intro w9 hSw; (try dsimp only at hSw); go_simp; try with_reducible rfl
  try simp only [pm, s0, sS]
  refine wpAnyH_ready (rs := [2]) (by kernel_rfl) (by simp) ?_
  refine AllReadyH.cons (o := ⟨some 37, .call { callee := .value (.func 6), args := #[.tmp 36], argTypes := #[29] }, 37, "exact.go:5342", #[⟨1, .data⟩], none⟩) rfl (fun K hK => ?_) AllReadyH.nil
  go_simp
  go_at_call 6
  refine (toConditional_f N0 T0 t00 t01 a0 len0 cap0 z0 _ (S_13.out.drew.frI HT0.out) (HA0.out.below S_13.out.drew.below) HN0.out).mono ?_
  rintro e w9_ ⟨pu, qu, bu, yu, rfl, hd, hsh, hst⟩
  obtain ⟨Au, nu, cu, rfl⟩ := ((hst.own 1 rfl).at_ 0 rfl).shape3
  obtain ⟨Bu, mu, du, rfl⟩ := ((hst.own 1 rfl).at_ 1 rfl).shape3
  rw [HZ0.out]
  have HDu := Lib.hid hd
  have HSu := Lib.hid hsh
  have HYu := Lib.hid (show yu.length = len0 by rw [← dats_len, hd, dats_len]; exact HZ0.out)
  have S_14 := Lib.hid (S_13.out.drew.over hst)
  clear hd hsh hst S_13
  refine hK.out _ _ (⟨S_14.out.cell 3 0 rfl rfl, S_14.out.cell 3 1 rfl rfl, S_14.out.cell 3 2 rfl rfl, S_14.out.cell 3 3 rfl rfl, S_14.out.cell 3 4 rfl rfl, S_14.out.cell 6 0 rfl rfl, S_14.out.cell 6 1 rfl rfl, S_14.out.cell 6 2 rfl rfl, S_14.out.cell 6 3 rfl rfl, S_14.out.cell 6 4 rfl rfl⟩) (fun hHeld2 => ?_)
  clear hK K
  try simp only [pm, s0, sS]
  refine wpAnyH_ready (rs := [3]) (by kernel_rfl) (by simp) ?_
  refine AllReadyH.cons (o := ⟨some 38, .call { callee := .value (.func 8), args := #[.tmp 35, .tmp 37], argTypes := #[37, 37] }, 4, "exact.go:5342", #[⟨0, .data⟩, ⟨2, .data⟩, ⟨2, .chain⟩], none⟩) rfl (fun K hK => ?_) AllReadyH.nil
  go_simp
  go_at_call 8
  refine (eqConditional_f N0 T0 (.slice Ax nx cx) (.slice Bx mx dx) (.slice Au nu cu) (.slice Bu mu du) (some ⟨bx, 0, none⟩) (some ⟨bu, 0, none⟩) len0 len0 len0 yx yu _ (S_14.out.fr 5 0 rfl rfl rfl).i (S_14.out.fr 1 0 rfl rfl rfl).i (HYx.out ▸ S_14.out.rrow 4 4 HSx.out rfl rfl rfl) (HYu.out ▸ S_14.out.rrow 0 0 HSu.out rfl rfl rfl) (HDx.out.trans HDu.out.symm) hn0).mono ?_
  rintro e w10_ ⟨rfl, hb⟩
  have S_15 := Lib.hid (S_14.out.call hb)
  clear hb S_14
  refine hK.out _ _ (⟨S_15.out.cell 3 0 rfl rfl, S_15.out.cell 3 1 rfl rfl, S_15.out.cell 3 2 rfl rfl, S_15.out.cell 3 3 rfl rfl, S_15.out.cell 3 4 rfl rfl, S_15.out.cell 6 0 rfl rfl, S_15.out.cell 6 1 rfl rfl, S_15.out.cell 6 2 rfl rfl, S_15.out.cell 6 3 rfl rfl, S_15.out.cell 6 4 rfl rfl⟩) (fun hHeld3 => ?_)
  clear hK K
  try simp only [pm, s0, sS]
  refine tkH 4 ?_ ⟨some 39, .unOp .not 4 (.tmp 38), 4, "exact.go:5342", #[⟨3, .data⟩], none⟩ ?_ ?_
  rotate_left
  · intro w9 hSw; (try dsimp only at hSw); go_simp; try with_reducible rfl
  try simp only [pm, s0, sS]
  refine wpAnyH_done (by kernel_rfl) ?_ _
  refine NoPanic.normal ?_
  have hk_vg_0_15 := S_15.out.cell 1 0 rfl rfl
  have hk_vg_1_15 := S_15.out.cell 1 1 rfl rfl
  have hk_vg_2_15 := S_15.out.cell 1 2 rfl rfl
  have hk_vg_3_15 := S_15.out.cell 1 3 rfl rfl
  have hk_vg_4_15 := S_15.out.cell 1 4 rfl rfl
  have hk_arg1_0_15 := S_15.out.cell 5 0 rfl rfl
  have hk_arg1_1_15 := S_15.out.cell 5 1 rfl rfl
  have hk_arg1_2_15 := S_15.out.cell 5 2 rfl rfl
  have hk_arg1_3_15 := S_15.out.cell 5 3 rfl rfl
  have hk_arg1_4_15 := S_15.out.cell 5 4 rfl rfl
  go_wp2
  clear hk_vg_0_15 hk_vg_1_15 hk_vg_2_15 hk_vg_3_15 hk_vg_4_15 hk_arg1_0_15 hk_arg1_1_15 hk_arg1_2_15 hk_arg1_3_15 hk_arg1_4_15
  have mkS_16 : ∀ (w' : World) (cs' : List Chunk), St W w' [(bu, cellsR yu), (w7_.heap.size, [.int .i64 N1, .bool T1.s, (.slice Ag ng cg), (.slice Bg mg dg), (.slice (some ⟨bg, 0, none⟩) len1 len1)]), (bg, cellsR yg), (w6_.heap.size, [.int .i64 N0, .bool T0.s, (.slice Ax nx cx), (.slice Bx mx dx), (.slice (some ⟨bx, 0, none⟩) len0 len0)]), (bx, cellsR yx), (W.heap.size + 1, [.int .i64 N1, .bool T1.s, t10, t11, (.slice a1 len1 cap1)]), (W.heap.size, [.int .i64 N0, .bool T0.s, t00, t01, (.slice a0 len0 cap0)])] cs' → w'.cell? ⟨w7_.heap.size, 0, none⟩ = some (.int .i64 N1) ∧ w'.cell? ⟨w7_.heap.size, 1, none⟩ = some (.bool T1.s) ∧ w'.cell? ⟨w7_.heap.size, 2, none⟩ = some ((.slice Ag ng cg)) ∧ w'.cell? ⟨w7_.heap.size, 3, none⟩ = some ((.slice Bg mg dg)) ∧ w'.cell? ⟨w7_.heap.size, 4, none⟩ = some ((.slice (some ⟨bg, 0, none⟩) len1 len1)) ∧ w'.cell? ⟨W.heap.size + 1, 0, none⟩ = some (.int .i64 N1) ∧ w'.cell? ⟨W.heap.size + 1, 1, none⟩ = some (.bool T1.s) ∧ w'.cell? ⟨W.heap.size + 1, 2, none⟩ = some (t10) ∧ w'.cell? ⟨W.heap.size + 1, 3, none⟩ = some (t11) ∧ w'.cell? ⟨W.heap.size + 1, 4, none⟩ = some ((.slice a1 len1 cap1)) := fun w' cs' h => ⟨h.cell 1 0 rfl rfl, h.cell 1 1 rfl rfl, h.cell 1 2 rfl rfl, h.cell 1 3 rfl rfl, h.cell 1 4 rfl rfl, h.cell 5 0 rfl rfl, h.cell 5 1 rfl rfl, h.cell 5 2 rfl rfl, h.cell 5 3 rfl rfl, h.cell 5 4 rfl rfl⟩
  refine wp_region_noPanic ?_
  refine wp_region_held_drew (S := (fun w' => w'.cell? ⟨w7_.heap.size, 0, none⟩ = some (.int .i64 N1) ∧ w'.cell? ⟨w7_.heap.size, 1, none⟩ = some (.bool T1.s) ∧ w'.cell? ⟨w7_.heap.size, 2, none⟩ = some ((.slice Ag ng cg)) ∧ w'.cell? ⟨w7_.heap.size, 3, none⟩ = some ((.slice Bg mg dg)) ∧ w'.cell? ⟨w7_.heap.size, 4, none⟩ = some ((.slice (some ⟨bg, 0, none⟩) len1 len1)) ∧ w'.cell? ⟨W.heap.size + 1, 0, none⟩ = some (.int .i64 N1) ∧ w'.cell? ⟨W.heap.size + 1, 1, none⟩ = some (.bool T1.s) ∧ w'.cell? ⟨W.heap.size + 1, 2, none⟩ = some (t10) ∧ w'.cell? ⟨W.heap.size + 1, 3, none⟩ = some (t11) ∧ w'.cell? ⟨W.heap.size + 1, 4, none⟩ = some ((.slice a1 len1 cap1)))) (by kernel_rfl) ?_ (fun hHeld => ?_)
  · exact mkS_16 _ _ S_15.out.drew
  refine tkH 0 ?_ ⟨some 40, .load 37 (.tmp 8), 37, "exact.go:5345", #[], none⟩ ?_ ?_
  rotate_left
  · intro w9 hSw; (try dsimp only at hSw); go_simp; try with_reducible rfl
  try simp only [pm, s0, sS]
  refine tkH 1 ?_ ⟨some 41, .load 29 (.tmp 3), 29, "exact.go:5345", #[], none⟩ ?_ ?_
  rotate_left
  · intro w9 hSw; (try dsimp only at hSw); go_simp; try with_reducible rfl
  try simp only [pm, s0, sS]
  refine wpAnyH_ready (rs := [2]) (by kernel_rfl) (by simp) ?_
  refine AllReadyH.cons (o := ⟨some 42, .call { callee := .value (.func 6), args := #[.tmp 41], argTypes := #[29] }, 37, "exact.go:5345", #[⟨1, .data⟩], none⟩) rfl (fun K hK => ?_) AllReadyH.nil
  go_simp
  go_at_call 6
  refine (toConditional_f N1 T1 t10 t11 a1 len1 cap1 z1 _ (S_15.out.drew.frI HT1.out) (HA1.out.below S_15.out.drew.below) HN1.out).mono ?_
  rintro e w11_ ⟨pv, qv, bv, yv, rfl, hd, hsh, hst⟩
  obtain ⟨Av, nv, cv, rfl⟩ := ((hst.own 1 rfl).at_ 0 rfl).shape3
  obtain ⟨Bv, mv, dv, rfl⟩ := ((hst.own 1 rfl).at_ 1 rfl).shape3
  rw [HZ1.out]
  have HDv := Lib.hid hd
  have HSv := Lib.hid hsh
  have HYv := Lib.hid (show yv.length = len1 by rw [← dats_len, hd, dats_len]; exact HZ1.out)
  have S_16 := Lib.hid (S_15.out.drew.over hst)
  clear hd hsh hst S_15
  refine hK.out _ _ (⟨S_16.out.cell 2 0 rfl rfl, S_16.out.cell 2 1 rfl rfl, S_16.out.cell 2 2 rfl rfl, S_16.out.cell 2 3 rfl rfl, S_16.out.cell 2 4 rfl rfl, S_16.out.cell 6 0 rfl rfl, S_16.out.cell 6 1 rfl rfl, S_16.out.cell 6 2 rfl rfl, S_16.out.cell 6 3 rfl rfl, S_16.out.cell 6 4 rfl rfl⟩) (fun hHeld2 => ?_)
  clear hK K
  try simp only [pm, s0, sS]
  refine wpAnyH_ready (rs := [3]) (by kernel_rfl) (by simp) ?_
  refine AllReadyH.cons (o := ⟨some 43, .call { callee := .value (.func 8), args := #[.tmp 40, .tmp 42], argTypes := #[37, 37] }, 4, "exact.go:5345", #[⟨0, .data⟩, ⟨2, .data⟩, ⟨2, .chain⟩], none⟩) rfl (fun K hK => ?_) AllReadyH.nil
  go_simp
  go_at_call 8
  refine (eqConditional_f N1 T1 (.slice Ag ng cg) (.slice Bg mg dg) (.slice Av nv cv) (.slice Bv mv dv) (some ⟨bg, 0, none⟩) (some ⟨bv, 0, none⟩) len1 len1 len1 yg yv _ (S_16.out.fr 5 0 rfl rfl rfl).i (S_16.out.fr 1 0 rfl rfl rfl).i (HYg.out ▸ S_16.out.rrow 3 4 HSg.out rfl rfl rfl) (HYv.out ▸ S_16.out.rrow 0 0 HSv.out rfl rfl rfl) (HDg.out.trans HDv.out.symm) hn1).mono ?_
  rintro e w12_ ⟨rfl, hb⟩
  have S_17 := Lib.hid (S_16.out.call hb)
  clear hb S_16
  refine hK.out _ _ (⟨S_17.out.cell 2 0 rfl rfl, S_17.out.cell 2 1 rfl rfl, S_17.out.cell 2 2 rfl rfl, S_17.out.cell 2 3 rfl rfl, S_17.out.cell 2 4 rfl rfl, S_17.out.cell 6 0 rfl rfl, S_17.out.cell 6 1 rfl rfl, S_17.out.cell 6 2 rfl rfl, S_17.out.cell 6 3 rfl rfl, S_17.out.cell 6 4 rfl rfl⟩) (fun hHeld3 => ?_)
  clear hK K
  try simp only [pm, s0, sS]
  refine tkH 4 ?_ ⟨some 44, .unOp .not 4 (.tmp 43), 4, "exact.go:5345", #[⟨3, .data⟩], none⟩ ?_ ?_
  rotate_left
  · intro w9 hSw; (try dsimp only at hSw); go_simp; try with_reducible rfl
  try simp only [pm, s0, sS]
  refine wpAnyH_done (by kernel_rfl) ?_ _
  refine NoPanic.normal ?_
  go_wp2
  go_ret
  exact ⟨rfl, S_17.out.below⟩

set_option maxRecDepth 100000 in
theorem lifted (os : Os) (started : os.Started) (H : Type) (enc : TypeId × Value → H) :
    ReturnsInHanded {} Try.checked os 3 .any (Rows.fnExactSameConditionalSpec.pre6 enc Try.prog Try.f3 Rows.fnExactSameConditionalRow.domain false) (Rows.fnExactSameConditionalSpec.post enc Try.prog Try.f3 false true false false) := by
  refine returnsInHanded_of_change (C := Try.checked) own started (by kernel_rfl) Try.func3
    (ChangeSpec.witness6 (enc := enc) (C := Try.checked) false ⟨#[], #[.agg #[.int .i64 0, .bool false, .slice none 0 0, .slice none 0 0, .slice none 0 0], .agg #[.int .i64 0, .bool false, .slice none 0 0, .slice none 0 0, .slice none 0 0]], []⟩ 8 (by kernel_rfl) (by kernel_rfl) (by kernel_rfl) (by kernel_rfl)) ?_
  intro W base args ds gs before hval0 hW hcnd _
  have hval : ∀ (j : Nat) t v, Try.f3.params[j]? = some t → args[j]? = some v → Value.okWide Try.prog W .any base t v := hval0
  have hW' := hW
  obtain ⟨p, q, hA0, hV, rfl, hfz, hnd⟩ := hW
  have hA : DataW.TrodAll enc Try.prog W 0 (fun _ => true) true Try.f3.params.toList args.toList ds p := hA0
  rw [Try.params3] at hA hval
  obtain ⟨v0, vs0, d0, ds0, p0, q0, hargs, rfl, rfl, h0, r0⟩ := trodAll_cons hA
  obtain ⟨v1, vs1, d1, ds1, p1, q1, rfl, rfl, rfl, h1, r1⟩ := trodAll_cons r0
  obtain ⟨rfl, rfl, rfl⟩ := trodAll_nil r1
  obtain rfl : args = #[v0, v1] := by cases args; simp_all
  obtain ⟨rfl, rfl⟩ := trodVars_none hV
  have k0 := h0
  have lt0 : ∀ x ∈ p0, x.block < W.heap.size := by obtain ⟨m, hm⟩ := k0; exact DataW.trod_lt m _ _ _ hm
  obtain ⟨N0, T0, t00, t01, a0, len0, cap0, z0, rfl, w0⟩ := isCond_of condT_p (hval 0 29 v0 rfl rfl) h0
  have k1 := h1
  have lt1 : ∀ x ∈ p1, x.block < W.heap.size := by obtain ⟨m, hm⟩ := k1; exact DataW.trod_lt m _ _ _ hm
  obtain ⟨N1, T1, t10, t11, a1, len1, cap1, z1, rfl, w1⟩ := isCond_of condT_p (hval 1 29 v1 rfl rfl) h1
  clear hA0 hval0
  refine (walk W N0 T0 t00 t01 a0 len0 cap0 z0 w0 N1 T1 t10 t11 a1 len1 cap1 z1 w1).mono fun e W' ⟨he, bel⟩ => ?_
  subst he
  exact ⟨_, rfl, _, _, _, [], _, [], hW', trodAll_mk1 (shut_bool Try.underlying4 _), (trodAll_cons_mk (Below.trod laidOut (by kernel_rfl) (of_decide_eq_true (by kernel_rfl)) k0 bel lt0) (trodAll_cons_mk (Below.trod laidOut (by kernel_rfl) (of_decide_eq_true (by kernel_rfl)) k1 bel lt1) trodAll_mk0)), rfl, bel.frame _, fun h => by cases h⟩

theorem over : Rows.fnExactSameConditionalRow.holds Try.pinned (OpenSpec.ofChange Rows.fnExactSameConditionalSpec) :=
  OpenClaim.holds_of_wide 3 Try.f3 rfl rfl rfl rfl rfl rfl rfl ⟨rfl, rfl, rfl, rfl, rfl⟩ rfl rfl rfl rfl rfl (by kernel_rfl) Try.func3 (by kernel_rfl)
    (of_decide_eq_true (by kernel_rfl)) (by unfold Func.isWrapper; first | (rw [if_pos (by decide +kernel)]; kernel_rfl) | (rw [if_neg (by decide +kernel)]; exact ⟨rfl, rfl⟩))
    (fun os started H enc _ => lifted os started H enc)

theorem proved : Rows.FnExactSameConditionalSaid := over
#print axioms proved
end Go.Proofs.Ytpdggdakkdenoaa.lawSameConditional
