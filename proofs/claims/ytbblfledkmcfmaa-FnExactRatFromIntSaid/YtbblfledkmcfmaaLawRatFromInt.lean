/- Proved: at every integer, impl.RatFromInt answers as its model spec.RatFromInt in every result, writes into no argument, its answer owns its memory, the call returns true and changes no memory that was there. Conditions: none. -/
import Derived.Test.YtbblfledkmcfmaaRows
import Derived.Test.YtbblfledkmcfmaaHelpI
import Derived.Test.YtbblfledkmcfmaaOpen
import Derived.Test.YtbblfledkmcfmaaOpenB
import Derived.Test.YtbblfledkmcfmaaHeld
import Derived.Test.YtbblfledkmcfmaaHelpR
import Derived.Test.YtbblfledkmcfmaaOpenR
import Derived.Test.YtbblfledkmcfmaaRat3a
import Derived.Test.YtbblfledkmcfmaaRat4c
import Derived.WalkKit
import Derived.ProofKit
import Derived.OpenShut
import Derived.ShutString
import Derived.ChangeOld
import Derived.Below
namespace Go.Proofs.Ytbblfledkmcfmaa.lawRatFromInt
open Go.ChangeShapes Go.WideShapes Go.ChangeAt Go.RowKit
open Go.ChangeMaps (open_string shut_string)
set_option linter.unusedVariables false

theorem own : ownKnob Try.prog.godebug = none := by kernel_rfl
theorem laidOut : laidOutB Try.prog = true := by kernel_rfl
open Nt

set_option maxRecDepth 100000 in
set_option maxHeartbeats 4000000 in
theorem walk (W : World) (a0 : Int) (w0 : (Lit.int .i64 a0).wf = true) :
    Calls Try.prog 6 #[.int .i64 a0] W fun e w' => e = .returned (.bool true) ∧ Below W.heap.size W w' := by
  have hb_0 : -9223372036854775808 ≤ a0 ∧ a0 ≤ 9223372036854775807 := by have h := bounds_i64 w0; omega
  clear w0
  obtain ⟨RS0, hRS0⟩ : ∃ b : Bool, sgZ a0 = b := ⟨_, rfl⟩
  have HS0 := Lib.hid hRS0
  clear hRS0
  obtain ⟨R0, hR0⟩ : ∃ R : List Int, nats (magZ a0) = ints R := ⟨_, rfl⟩
  have hN0 : R0.length ≤ 1048576 := by have h : (nats (magZ a0)).length ≤ 1048576 := (by rw [nats_len]; exact Nat.le_trans (capd_len _) (by omega)); rw [hR0, ints_len] at h; exact h
  obtain ⟨n0, hn0⟩ : ∃ n, R0.length = n := ⟨_, rfl⟩
  rw [hn0] at hN0
  have HN0 := Lib.hid (show (ints R0).length = n0 by rw [ints_len]; exact hn0)
  have HR0 := Lib.hid hR0
  clear hR0 hn0
  obtain ⟨R0b, hR0b⟩ : ∃ R : List Int, nats [1] = ints R := ⟨_, rfl⟩
  have hN0b : R0b.length ≤ 1048576 := by have h : (nats [1]).length ≤ 1048576 := (by decide); rw [hR0b, ints_len] at h; exact h
  obtain ⟨n0b, hn0b⟩ : ∃ n, R0b.length = n := ⟨_, rfl⟩
  rw [hn0b] at hN0b
  have HN0b := Lib.hid (show (ints R0b).length = n0b by rw [ints_len]; exact hn0b)
  have HR0b := Lib.hid hR0b
  clear hR0b hn0b
  have HB_0 := Lib.hid (Below.refl W.heap.size W)
  go_enter Try.func6, Try.ntmps6
  go_wp2_with fail
  refine (ratFromInt_spec a0 _ hb_0).mono ?_
  rintro e w1 ⟨v_w0, v_w0b, rfl, ho_w0, ho_w0b, ap01, ap10, hb⟩
  rw [HS0.out]
  rw [HR0.out] at ho_w0
  obtain ⟨A_w0, c_w0, hv⟩ := ho_w0.shape
  rw [HN0.out] at hv
  subst hv
  rw [HR0b.out] at ho_w0b
  obtain ⟨A_w0b, c_w0b, hv⟩ := ho_w0b.shape
  rw [HN0b.out] at hv
  subst hv
  have AP_w0_w0b := Lib.hid ap01
  clear ap01
  have AP_w0b_w0 := Lib.hid ap10
  clear ap10
  have H_w0_0 := Lib.hid (ho_w0.based HB_0.out.size)
  clear ho_w0
  have H_w0b_0 := Lib.hid (ho_w0b.based HB_0.out.size)
  clear ho_w0b
  have HB_1 := Lib.hid (HB_0.out.trans (hb.mono HB_0.out.size))
  clear hb HB_0
  have K_w0_2 := Lib.hid (HeldL.new w1 [.bool RS0, .slice A_w0 n0 c_w0, .slice A_w0b n0b c_w0b] 31)
  have H_w0_2 := Lib.hid (OwnV.below H_w0_0.out ((Below.refl _ w1).alloc (Nat.le_refl _) (.cells #[.bool RS0, .slice A_w0 n0 c_w0, .slice A_w0b n0b c_w0b] 31)))
  clear H_w0_0
  have H_w0b_2 := Lib.hid (OwnV.below H_w0b_0.out ((Below.refl _ w1).alloc (Nat.le_refl _) (.cells #[.bool RS0, .slice A_w0 n0 c_w0, .slice A_w0b n0b c_w0b] 31)))
  clear H_w0b_0
  have HB_2 := Lib.hid (HB_1.out.alloc HB_1.out.size (.cells #[.bool RS0, .slice A_w0 n0 c_w0, .slice A_w0b n0b c_w0b] 31))
  clear HB_1
  go_wp2_with fail
  refine (ratFromInt_impl a0 _ hb_0).mono ?_
  rintro e w2 ⟨v_g0, v_g0b, rfl, ho_g0, ho_g0b, ap01, ap10, hb⟩
  rw [HS0.out]
  rw [HR0.out] at ho_g0
  obtain ⟨A_g0, c_g0, hv⟩ := ho_g0.shape
  rw [HN0.out] at hv
  subst hv
  rw [HR0b.out] at ho_g0b
  obtain ⟨A_g0b, c_g0b, hv⟩ := ho_g0b.shape
  rw [HN0b.out] at hv
  subst hv
  have AP_g0_g0b := Lib.hid ap01
  clear ap01
  have AP_g0b_g0 := Lib.hid ap10
  clear ap10
  have AP_w0_g0 := Lib.hid (OwnV.apart H_w0_2.out ho_g0 (Nat.le_refl _))
  have AP_g0_w0 := Lib.hid (OwnV.apart' ho_g0 H_w0_2.out (Nat.le_refl _))
  have AP_w0b_g0 := Lib.hid (OwnV.apart H_w0b_2.out ho_g0 (Nat.le_refl _))
  have AP_g0_w0b := Lib.hid (OwnV.apart' ho_g0 H_w0b_2.out (Nat.le_refl _))
  have BN_w0_g0 := Lib.hid (OwnV.bn ho_g0 K_w0_2.out.lt)
  have H_g0_0 := Lib.hid (ho_g0.based HB_2.out.size)
  clear ho_g0
  have AP_w0_g0b := Lib.hid (OwnV.apart H_w0_2.out ho_g0b (Nat.le_refl _))
  have AP_g0b_w0 := Lib.hid (OwnV.apart' ho_g0b H_w0_2.out (Nat.le_refl _))
  have AP_w0b_g0b := Lib.hid (OwnV.apart H_w0b_2.out ho_g0b (Nat.le_refl _))
  have AP_g0b_w0b := Lib.hid (OwnV.apart' ho_g0b H_w0b_2.out (Nat.le_refl _))
  have BN_w0_g0b := Lib.hid (OwnV.bn ho_g0b K_w0_2.out.lt)
  have H_g0b_0 := Lib.hid (ho_g0b.based HB_2.out.size)
  clear ho_g0b
  have K_w0_3 := Lib.hid (K_w0_2.out.after hb)
  clear K_w0_2
  have H_w0_3 := Lib.hid (OwnV.below (w := (w1.alloc (.cells #[.bool RS0, .slice A_w0 n0 c_w0, .slice A_w0b n0b c_w0b] 31))) H_w0_2.out hb)
  clear H_w0_2
  have H_w0b_3 := Lib.hid (OwnV.below (w := (w1.alloc (.cells #[.bool RS0, .slice A_w0 n0 c_w0, .slice A_w0b n0b c_w0b] 31))) H_w0b_2.out hb)
  clear H_w0b_2
  have HB_3 := Lib.hid (HB_2.out.trans (hb.mono HB_2.out.size))
  clear hb HB_2
  have K_w0_4 := Lib.hid (K_w0_3.out.alloc (.cells #[.bool RS0, .slice A_g0 n0 c_g0, .slice A_g0b n0b c_g0b] 31))
  clear K_w0_3
  have K_g0_4 := Lib.hid (HeldL.new w2 [.bool RS0, .slice A_g0 n0 c_g0, .slice A_g0b n0b c_g0b] 31)
  have H_w0_4 := Lib.hid (OwnV.below H_w0_3.out ((Below.refl _ w2).alloc (Nat.le_refl _) (.cells #[.bool RS0, .slice A_g0 n0 c_g0, .slice A_g0b n0b c_g0b] 31)))
  clear H_w0_3
  have H_w0b_4 := Lib.hid (OwnV.below H_w0b_3.out ((Below.refl _ w2).alloc (Nat.le_refl _) (.cells #[.bool RS0, .slice A_g0 n0 c_g0, .slice A_g0b n0b c_g0b] 31)))
  clear H_w0b_3
  have BN_g0_g0 := Lib.hid (OwnV.bn_new H_g0_0.out)
  have H_g0_4 := Lib.hid (OwnV.below H_g0_0.out ((Below.refl _ w2).alloc (Nat.le_refl _) (.cells #[.bool RS0, .slice A_g0 n0 c_g0, .slice A_g0b n0b c_g0b] 31)))
  clear H_g0_0
  have BN_g0_g0b := Lib.hid (OwnV.bn_new H_g0b_0.out)
  have H_g0b_4 := Lib.hid (OwnV.below H_g0b_0.out ((Below.refl _ w2).alloc (Nat.le_refl _) (.cells #[.bool RS0, .slice A_g0 n0 c_g0, .slice A_g0b n0b c_g0b] 31)))
  clear H_g0b_0
  have HB_4 := Lib.hid (HB_3.out.alloc HB_3.out.size (.cells #[.bool RS0, .slice A_g0 n0 c_g0, .slice A_g0b n0b c_g0b] 31))
  clear HB_3
  have hk_g0_0_4 := K_g0_4.out.cell 0 _ rfl
  have hk_g0_1_4 := K_g0_4.out.cell 1 _ rfl
  have hk_g0_2_4 := K_g0_4.out.cell 2 _ rfl
  have hk_w0_0_4 := K_w0_4.out.cell 0 _ rfl
  have hk_w0_1_4 := K_w0_4.out.cell 1 _ rfl
  have hk_w0_2_4 := K_w0_4.out.cell 2 _ rfl
  go_wp2_with fail
  refine (eqRat_same RS0 A_g0 A_w0 n0 c_g0 c_w0 R0 A_g0b A_w0b n0b c_g0b c_w0b R0b _ H_g0_4.out.row H_w0_4.out.row H_g0b_4.out.row H_w0b_4.out.row (by unfold maxLen; omega) (by unfold maxLen; omega)).mono ?_
  rintro e w3 ⟨rfl, hb⟩
  have K_w0_5 := Lib.hid (K_w0_4.out.after hb)
  clear K_w0_4
  have K_g0_5 := Lib.hid (K_g0_4.out.after hb)
  clear K_g0_4
  have H_w0_5 := Lib.hid (OwnV.below (w := (w2.alloc (.cells #[.bool RS0, .slice A_g0 n0 c_g0, .slice A_g0b n0b c_g0b] 31))) H_w0_4.out hb)
  clear H_w0_4
  have H_w0b_5 := Lib.hid (OwnV.below (w := (w2.alloc (.cells #[.bool RS0, .slice A_g0 n0 c_g0, .slice A_g0b n0b c_g0b] 31))) H_w0b_4.out hb)
  clear H_w0b_4
  have H_g0_5 := Lib.hid (OwnV.below (w := (w2.alloc (.cells #[.bool RS0, .slice A_g0 n0 c_g0, .slice A_g0b n0b c_g0b] 31))) H_g0_4.out hb)
  clear H_g0_4
  have H_g0b_5 := Lib.hid (OwnV.below (w := (w2.alloc (.cells #[.bool RS0, .slice A_g0 n0 c_g0, .slice A_g0b n0b c_g0b] 31))) H_g0b_4.out hb)
  clear H_g0b_4
  have HB_5 := Lib.hid (HB_4.out.trans (hb.mono HB_4.out.size))
  clear hb HB_4
  clear hk_g0_0_4
  clear hk_g0_1_4
  clear hk_g0_2_4
  clear hk_w0_0_4
  clear hk_w0_1_4
  clear hk_w0_2_4
  have hk_g0_0_5 := K_g0_5.out.cell 0 _ rfl
  have hk_g0_1_5 := K_g0_5.out.cell 1 _ rfl
  have hk_g0_2_5 := K_g0_5.out.cell 2 _ rfl
  go_wp2_with fail
  refine (markRat_at RS0 A_g0 n0 c_g0 A_g0b n0b c_g0b (1) W.heap.size _ (by first | rfl | omega) _ _ _ H_g0_5.out H_g0b_5.out AP_g0_g0b.out AP_g0b_g0.out (by omega)).mono ?_
  rintro e w4 ⟨rfl, wm4, hg0, hg1, ho0, ho1⟩
  have K_w0_6 := Lib.hid ((K_w0_5.out.grown hg0 BN_w0_g0.out).grown hg1 BN_w0_g0b.out)
  clear K_w0_5
  have K_g0_6 := Lib.hid ((K_g0_5.out.grown hg0 BN_g0_g0.out).grown hg1 BN_g0_g0b.out)
  clear K_g0_5
  have HB_6 := Lib.hid (Below.grown (Below.grown HB_5.out hg0 (Below.size HB_5.out) (fun k hk => (H_g0_5.out.lt k hk).1)) hg1 (Below.size (Below.grown HB_5.out hg0 (Below.size HB_5.out) (fun k hk => (H_g0_5.out.lt k hk).1))) (fun k hk => (H_g0b_5.out.lt k hk).1))
  clear HB_5
  have H_w0_6 := Lib.hid ((H_w0_5.out.kept hg0 AP_w0_g0.out).kept hg1 AP_w0_g0b.out)
  clear H_w0_5
  have H_w0b_6 := Lib.hid ((H_w0b_5.out.kept hg0 AP_w0b_g0.out).kept hg1 AP_w0b_g0b.out)
  clear H_w0b_5
  clear H_g0_5
  have H_g0_6 := Lib.hid ho0
  clear ho0
  clear H_g0b_5
  have H_g0b_6 := Lib.hid ho1
  clear ho1
  clear hg1 hg0
  clear hk_g0_0_5
  clear hk_g0_1_5
  clear hk_g0_2_5
  have hk_g0_0_6 := K_g0_6.out.cell 0 _ rfl
  have hk_g0_1_6 := K_g0_6.out.cell 1 _ rfl
  have hk_g0_2_6 := K_g0_6.out.cell 2 _ rfl
  go_wp2_with fail
  refine (heldRat_at RS0 A_g0 n0 c_g0 A_g0b n0b c_g0b (1) _ (by first | rfl | omega) _ H_g0_6.out.row H_g0b_6.out.row (by omega)).mono ?_
  rintro e w5 ⟨rfl, hb⟩
  have K_w0_7 := Lib.hid (K_w0_6.out.after hb)
  clear K_w0_6
  have K_g0_7 := Lib.hid (K_g0_6.out.after hb)
  clear K_g0_6
  have H_w0_7 := Lib.hid (OwnV.below (w := w4) H_w0_6.out hb)
  clear H_w0_6
  have H_w0b_7 := Lib.hid (OwnV.below (w := w4) H_w0b_6.out hb)
  clear H_w0b_6
  have H_g0_7 := Lib.hid (OwnV.below (w := w4) H_g0_6.out hb)
  clear H_g0_6
  have H_g0b_7 := Lib.hid (OwnV.below (w := w4) H_g0b_6.out hb)
  clear H_g0b_6
  have HB_7 := Lib.hid (HB_6.out.trans (hb.mono HB_6.out.size))
  clear hb HB_6
  clear hk_g0_0_6
  clear hk_g0_1_6
  clear hk_g0_2_6
  go_wp2_with fail
  refine (ratFromInt_impl a0 _ hb_0).mono ?_
  rintro e w6 ⟨v_h0, v_h0b, rfl, ho_h0, ho_h0b, ap01, ap10, hb⟩
  rw [HS0.out]
  rw [HR0.out] at ho_h0
  obtain ⟨A_h0, c_h0, hv⟩ := ho_h0.shape
  rw [HN0.out] at hv
  subst hv
  rw [HR0b.out] at ho_h0b
  obtain ⟨A_h0b, c_h0b, hv⟩ := ho_h0b.shape
  rw [HN0b.out] at hv
  subst hv
  have AP_h0_h0b := Lib.hid ap01
  clear ap01
  have AP_h0b_h0 := Lib.hid ap10
  clear ap10
  have AP_w0_h0 := Lib.hid (OwnV.apart H_w0_7.out ho_h0 (Nat.le_refl _))
  have AP_h0_w0 := Lib.hid (OwnV.apart' ho_h0 H_w0_7.out (Nat.le_refl _))
  have AP_w0b_h0 := Lib.hid (OwnV.apart H_w0b_7.out ho_h0 (Nat.le_refl _))
  have AP_h0_w0b := Lib.hid (OwnV.apart' ho_h0 H_w0b_7.out (Nat.le_refl _))
  have AP_g0_h0 := Lib.hid (OwnV.apart H_g0_7.out ho_h0 (Nat.le_refl _))
  have AP_h0_g0 := Lib.hid (OwnV.apart' ho_h0 H_g0_7.out (Nat.le_refl _))
  have AP_g0b_h0 := Lib.hid (OwnV.apart H_g0b_7.out ho_h0 (Nat.le_refl _))
  have AP_h0_g0b := Lib.hid (OwnV.apart' ho_h0 H_g0b_7.out (Nat.le_refl _))
  have H_h0_0 := Lib.hid (ho_h0.based HB_7.out.size)
  clear ho_h0
  have AP_w0_h0b := Lib.hid (OwnV.apart H_w0_7.out ho_h0b (Nat.le_refl _))
  have AP_h0b_w0 := Lib.hid (OwnV.apart' ho_h0b H_w0_7.out (Nat.le_refl _))
  have AP_w0b_h0b := Lib.hid (OwnV.apart H_w0b_7.out ho_h0b (Nat.le_refl _))
  have AP_h0b_w0b := Lib.hid (OwnV.apart' ho_h0b H_w0b_7.out (Nat.le_refl _))
  have AP_g0_h0b := Lib.hid (OwnV.apart H_g0_7.out ho_h0b (Nat.le_refl _))
  have AP_h0b_g0 := Lib.hid (OwnV.apart' ho_h0b H_g0_7.out (Nat.le_refl _))
  have AP_g0b_h0b := Lib.hid (OwnV.apart H_g0b_7.out ho_h0b (Nat.le_refl _))
  have AP_h0b_g0b := Lib.hid (OwnV.apart' ho_h0b H_g0b_7.out (Nat.le_refl _))
  have H_h0b_0 := Lib.hid (ho_h0b.based HB_7.out.size)
  clear ho_h0b
  have K_w0_8 := Lib.hid (K_w0_7.out.after hb)
  clear K_w0_7
  have K_g0_8 := Lib.hid (K_g0_7.out.after hb)
  clear K_g0_7
  have H_w0_8 := Lib.hid (OwnV.below (w := w5) H_w0_7.out hb)
  clear H_w0_7
  have H_w0b_8 := Lib.hid (OwnV.below (w := w5) H_w0b_7.out hb)
  clear H_w0b_7
  have H_g0_8 := Lib.hid (OwnV.below (w := w5) H_g0_7.out hb)
  clear H_g0_7
  have H_g0b_8 := Lib.hid (OwnV.below (w := w5) H_g0b_7.out hb)
  clear H_g0b_7
  have HB_8 := Lib.hid (HB_7.out.trans (hb.mono HB_7.out.size))
  clear hb HB_7
  have K_w0_9 := Lib.hid (K_w0_8.out.alloc (.cells #[.bool RS0, .slice A_h0 n0 c_h0, .slice A_h0b n0b c_h0b] 31))
  clear K_w0_8
  have K_g0_9 := Lib.hid (K_g0_8.out.alloc (.cells #[.bool RS0, .slice A_h0 n0 c_h0, .slice A_h0b n0b c_h0b] 31))
  clear K_g0_8
  have K_h0_9 := Lib.hid (HeldL.new w6 [.bool RS0, .slice A_h0 n0 c_h0, .slice A_h0b n0b c_h0b] 31)
  have H_w0_9 := Lib.hid (OwnV.below H_w0_8.out ((Below.refl _ w6).alloc (Nat.le_refl _) (.cells #[.bool RS0, .slice A_h0 n0 c_h0, .slice A_h0b n0b c_h0b] 31)))
  clear H_w0_8
  have H_w0b_9 := Lib.hid (OwnV.below H_w0b_8.out ((Below.refl _ w6).alloc (Nat.le_refl _) (.cells #[.bool RS0, .slice A_h0 n0 c_h0, .slice A_h0b n0b c_h0b] 31)))
  clear H_w0b_8
  have BN_h0_g0 := Lib.hid (OwnV.bn_new H_g0_8.out)
  have H_g0_9 := Lib.hid (OwnV.below H_g0_8.out ((Below.refl _ w6).alloc (Nat.le_refl _) (.cells #[.bool RS0, .slice A_h0 n0 c_h0, .slice A_h0b n0b c_h0b] 31)))
  clear H_g0_8
  have BN_h0_g0b := Lib.hid (OwnV.bn_new H_g0b_8.out)
  have H_g0b_9 := Lib.hid (OwnV.below H_g0b_8.out ((Below.refl _ w6).alloc (Nat.le_refl _) (.cells #[.bool RS0, .slice A_h0 n0 c_h0, .slice A_h0b n0b c_h0b] 31)))
  clear H_g0b_8
  have H_h0_9 := Lib.hid (OwnV.below H_h0_0.out ((Below.refl _ w6).alloc (Nat.le_refl _) (.cells #[.bool RS0, .slice A_h0 n0 c_h0, .slice A_h0b n0b c_h0b] 31)))
  clear H_h0_0
  have H_h0b_9 := Lib.hid (OwnV.below H_h0b_0.out ((Below.refl _ w6).alloc (Nat.le_refl _) (.cells #[.bool RS0, .slice A_h0 n0 c_h0, .slice A_h0b n0b c_h0b] 31)))
  clear H_h0b_0
  have HB_9 := Lib.hid (HB_8.out.alloc HB_8.out.size (.cells #[.bool RS0, .slice A_h0 n0 c_h0, .slice A_h0b n0b c_h0b] 31))
  clear HB_8
  have hk_h0_0_9 := K_h0_9.out.cell 0 _ rfl
  have hk_h0_1_9 := K_h0_9.out.cell 1 _ rfl
  have hk_h0_2_9 := K_h0_9.out.cell 2 _ rfl
  have hk_w0_0_9 := K_w0_9.out.cell 0 _ rfl
  have hk_w0_1_9 := K_w0_9.out.cell 1 _ rfl
  have hk_w0_2_9 := K_w0_9.out.cell 2 _ rfl
  go_wp2_with fail
  refine (eqRat_same RS0 A_h0 A_w0 n0 c_h0 c_w0 R0 A_h0b A_w0b n0b c_h0b c_w0b R0b _ H_h0_9.out.row H_w0_9.out.row H_h0b_9.out.row H_w0b_9.out.row (by unfold maxLen; omega) (by unfold maxLen; omega)).mono ?_
  rintro e w7 ⟨rfl, hb⟩
  have K_w0_10 := Lib.hid (K_w0_9.out.after hb)
  clear K_w0_9
  have K_g0_10 := Lib.hid (K_g0_9.out.after hb)
  clear K_g0_9
  have K_h0_10 := Lib.hid (K_h0_9.out.after hb)
  clear K_h0_9
  have H_w0_10 := Lib.hid (OwnV.below (w := (w6.alloc (.cells #[.bool RS0, .slice A_h0 n0 c_h0, .slice A_h0b n0b c_h0b] 31))) H_w0_9.out hb)
  clear H_w0_9
  have H_w0b_10 := Lib.hid (OwnV.below (w := (w6.alloc (.cells #[.bool RS0, .slice A_h0 n0 c_h0, .slice A_h0b n0b c_h0b] 31))) H_w0b_9.out hb)
  clear H_w0b_9
  have H_g0_10 := Lib.hid (OwnV.below (w := (w6.alloc (.cells #[.bool RS0, .slice A_h0 n0 c_h0, .slice A_h0b n0b c_h0b] 31))) H_g0_9.out hb)
  clear H_g0_9
  have H_g0b_10 := Lib.hid (OwnV.below (w := (w6.alloc (.cells #[.bool RS0, .slice A_h0 n0 c_h0, .slice A_h0b n0b c_h0b] 31))) H_g0b_9.out hb)
  clear H_g0b_9
  have H_h0_10 := Lib.hid (OwnV.below (w := (w6.alloc (.cells #[.bool RS0, .slice A_h0 n0 c_h0, .slice A_h0b n0b c_h0b] 31))) H_h0_9.out hb)
  clear H_h0_9
  have H_h0b_10 := Lib.hid (OwnV.below (w := (w6.alloc (.cells #[.bool RS0, .slice A_h0 n0 c_h0, .slice A_h0b n0b c_h0b] 31))) H_h0b_9.out hb)
  clear H_h0b_9
  have HB_10 := Lib.hid (HB_9.out.trans (hb.mono HB_9.out.size))
  clear hb HB_9
  clear hk_h0_0_9
  clear hk_h0_1_9
  clear hk_h0_2_9
  clear hk_w0_0_9
  clear hk_w0_1_9
  clear hk_w0_2_9
  have hk_g0_0_10 := K_g0_10.out.cell 0 _ rfl
  have hk_g0_1_10 := K_g0_10.out.cell 1 _ rfl
  have hk_g0_2_10 := K_g0_10.out.cell 2 _ rfl
  go_wp2_with fail
  refine (heldRat_at RS0 A_g0 n0 c_g0 A_g0b n0b c_g0b (1) _ (by first | rfl | omega) _ H_g0_10.out.row H_g0b_10.out.row (by omega)).mono ?_
  rintro e w8 ⟨rfl, hb⟩
  have K_w0_11 := Lib.hid (K_w0_10.out.after hb)
  clear K_w0_10
  have K_g0_11 := Lib.hid (K_g0_10.out.after hb)
  clear K_g0_10
  have K_h0_11 := Lib.hid (K_h0_10.out.after hb)
  clear K_h0_10
  have H_w0_11 := Lib.hid (OwnV.below (w := w7) H_w0_10.out hb)
  clear H_w0_10
  have H_w0b_11 := Lib.hid (OwnV.below (w := w7) H_w0b_10.out hb)
  clear H_w0b_10
  have H_g0_11 := Lib.hid (OwnV.below (w := w7) H_g0_10.out hb)
  clear H_g0_10
  have H_g0b_11 := Lib.hid (OwnV.below (w := w7) H_g0b_10.out hb)
  clear H_g0b_10
  have H_h0_11 := Lib.hid (OwnV.below (w := w7) H_h0_10.out hb)
  clear H_h0_10
  have H_h0b_11 := Lib.hid (OwnV.below (w := w7) H_h0b_10.out hb)
  clear H_h0b_10
  have HB_11 := Lib.hid (HB_10.out.trans (hb.mono HB_10.out.size))
  clear hb HB_10
  clear hk_g0_0_10
  clear hk_g0_1_10
  clear hk_g0_2_10
  go_wp2
  go_ret
  exact ⟨rfl, HB_11.out⟩

set_option maxRecDepth 100000 in
theorem lifted (os : Os) (started : os.Started) (H : Type) (enc : TypeId × Value → H) :
    ReturnsInHanded {} Try.checked os 6 .any (Rows.fnExactRatFromIntSpec.pre6 enc Try.prog Try.f6 Rows.fnExactRatFromIntRow.domain false) (Rows.fnExactRatFromIntSpec.post enc Try.prog Try.f6 false true false false) := by
  refine returnsInHanded_of_change (C := Try.checked) own started (by kernel_rfl) Try.func6
    (ChangeSpec.witness6 (enc := enc) (C := Try.checked) false ⟨#[], #[.int .i64 0], []⟩ 8 (by kernel_rfl) (by kernel_rfl) (by kernel_rfl) (by kernel_rfl)) ?_
  intro W base args ds gs before hval0 hW hcnd _
  have hval : ∀ (j : Nat) t v, Try.f6.params[j]? = some t → args[j]? = some v → Value.okWide Try.prog W .any base t v := hval0
  have hW' := hW
  obtain ⟨p, q, hA0, hV, rfl, hfz, hnd⟩ := hW
  have hA : DataW.TrodAll enc Try.prog W 0 (fun _ => true) true Try.f6.params.toList args.toList ds p := hA0
  rw [Try.params6] at hA hval
  obtain ⟨v0, vs0, d0, ds0, p0, q0, hargs, rfl, rfl, h0, r0⟩ := trodAll_cons hA
  obtain ⟨rfl, rfl, rfl⟩ := trodAll_nil r0
  obtain rfl : args = #[v0] := by cases args; simp_all
  obtain ⟨rfl, rfl⟩ := trodVars_none hV
  obtain ⟨a0, rfl, rfl, rfl, w0⟩ := open_int Try.underlying3 (hval 0 3 v0 rfl rfl) h0
  clear hA0 hval0
  refine (walk W a0 w0).mono fun e W' ⟨he, bel⟩ => ?_
  subst he
  exact ⟨_, rfl, _, _, _, [], _, [], hW', trodAll_mk1 (shut_bool Try.underlying4 _), (trodAll_cons_mk (shut_int Try.underlying3 w0) trodAll_mk0), rfl, bel.frame _, fun h => by cases h⟩

theorem over : Rows.fnExactRatFromIntRow.holds Try.pinned (OpenSpec.ofChange Rows.fnExactRatFromIntSpec) :=
  OpenClaim.holds_of_wide 6 Try.f6 rfl rfl rfl rfl rfl rfl rfl ⟨rfl, rfl, rfl, rfl, rfl⟩ rfl rfl rfl rfl rfl (by kernel_rfl) Try.func6 (by kernel_rfl)
    (of_decide_eq_true (by kernel_rfl)) (by unfold Func.isWrapper; first | (rw [if_pos (by decide +kernel)]; kernel_rfl) | (rw [if_neg (by decide +kernel)]; exact ⟨rfl, rfl⟩))
    (fun os started H enc _ => lifted os started H enc)

theorem proved : Rows.FnExactRatFromIntSaid := over
#print axioms proved
end Go.Proofs.Ytbblfledkmcfmaa.lawRatFromInt
