/- Proved: at all fractions, impl.RatNeg answers as its model spec.RatNeg in every result, writes into no argument, its answer owns its memory, the call returns true and changes no memory that was there. Conditions: none. -/
import Derived.Test.YtbblfledkmcfmaaRows
import Derived.Test.YtbblfledkmcfmaaHelpI
import Derived.Test.YtbblfledkmcfmaaOpen
import Derived.Test.YtbblfledkmcfmaaOpenB
import Derived.Test.YtbblfledkmcfmaaHeld
import Derived.Test.YtbblfledkmcfmaaHelpR
import Derived.Test.YtbblfledkmcfmaaOpenR
import Derived.Test.YtbblfledkmcfmaaRat3e
import Derived.Test.YtbblfledkmcfmaaRat4c
import Derived.WalkKit
import Derived.ProofKit
import Derived.OpenShut
import Derived.ShutString
import Derived.ChangeOld
import Derived.Below
namespace Go.Proofs.Ytbblfledkmcfmaa.lawRatNeg
open Go.ChangeShapes Go.WideShapes Go.ChangeAt Go.RowKit
open Go.ChangeMaps (open_string shut_string)
set_option linter.unusedVariables false

theorem own : ownKnob Try.prog.godebug = none := by kernel_rfl
theorem laidOut : laidOutB Try.prog = true := by kernel_rfl
open Nt

set_option maxRecDepth 100000 in
set_option maxHeartbeats 4000000 in
theorem walk (W : World) (s0 : Bool) (a0 : Option Addr) (len0 cap0 : Nat) (z0 : List Int) (w0 : IsInts .i64 W a0 len0 cap0 z0) (a0b : Option Addr) (len0b cap0b : Nat) (z0b : List Int) (w0b : IsInts .i64 W a0b len0b cap0b z0b) :
    Calls Try.prog 8 #[.agg #[.bool s0, .slice a0 len0 cap0, .slice a0b len0b cap0b]] W fun e w' => e = .returned (.bool true) ∧ Below W.heap.size W w' := by
  obtain ⟨hA0, hcap0, hcm0, hzs0⟩ := w0
  have hlm0 : len0 ≤ 9223372036854775807 := by unfold maxLen at hcm0; omega
  have HZ0 := Lib.hid (show (ints z0).length = len0 from hA0.1)
  have HA0 := Lib.hid (show VRow W a0 len0 (ints z0) from hA0)
  clear hA0 hzs0 hcm0
  obtain ⟨hA0b, hcap0b, hcm0b, hzs0b⟩ := w0b
  have hlm0b : len0b ≤ 9223372036854775807 := by unfold maxLen at hcm0b; omega
  have HZ0b := Lib.hid (show (ints z0b).length = len0b from hA0b.1)
  have HA0b := Lib.hid (show VRow W a0b len0b (ints z0b) from hA0b)
  clear hA0b hzs0b hcm0b
  obtain ⟨RS0, hRS0⟩ : ∃ b : Bool, ngS s0 z0 z0b = b := ⟨_, rfl⟩
  have HS0 := Lib.hid hRS0
  clear hRS0
  obtain ⟨R0, hR0⟩ : ∃ R : List Int, nats (ngN s0 z0 z0b) = ints R := ⟨_, rfl⟩
  have hN0 : R0.length ≤ 1048576 := by have h : (nats (ngN s0 z0 z0b)).length ≤ 1048576 := (by rw [nats_len]; exact Nat.le_trans (ngN_len _ _ _) (by omega)); rw [hR0, ints_len] at h; exact h
  obtain ⟨n0, hn0⟩ : ∃ n, R0.length = n := ⟨_, rfl⟩
  rw [hn0] at hN0
  have HN0 := Lib.hid (show (ints R0).length = n0 by rw [ints_len]; exact hn0)
  have HR0 := Lib.hid hR0
  clear hR0 hn0
  obtain ⟨R0b, hR0b⟩ : ∃ R : List Int, nats (ngD s0 z0 z0b) = ints R := ⟨_, rfl⟩
  have hN0b : R0b.length ≤ 1048576 := by have h : (nats (ngD s0 z0 z0b)).length ≤ 1048576 := (by rw [nats_len]; exact Nat.le_trans (ngD_len _ _ _) (by omega)); rw [hR0b, ints_len] at h; exact h
  obtain ⟨n0b, hn0b⟩ : ∃ n, R0b.length = n := ⟨_, rfl⟩
  rw [hn0b] at hN0b
  have HN0b := Lib.hid (show (ints R0b).length = n0b by rw [ints_len]; exact hn0b)
  have HR0b := Lib.hid hR0b
  clear hR0b hn0b
  have HB_0 := Lib.hid ((Below.refl W.heap.size W).alloc (Nat.le_refl _) (.cells #[.bool s0, .slice a0 len0 cap0, .slice a0b len0b cap0b] 26))
  have K_a0_0 := Lib.hid (HeldL.new_at W (W.heap.size) [.bool s0, .slice a0 len0 cap0, .slice a0b len0b cap0b] 26 (by first | rfl | simp))
  go_enter Try.func8, Try.ntmps8
  go_wp2_with fail
  refine (szRat_any s0 a0 len0 cap0 a0b len0b cap0b 1048576 _ (by omega) (by omega) (by omega) (by omega)).mono ?_
  rintro e w1 ⟨rfl, hb⟩
  have K_a0_1 := Lib.hid (K_a0_0.out.after hb)
  clear K_a0_0
  have HB_1 := Lib.hid (HB_0.out.trans (hb.mono HB_0.out.size))
  clear hb HB_0
  by_cases hs0 : (1048576 : Int) < (len0 + len0b : Nat)
  · rw [szOf_neg hs0]
    go_wp2
    go_ret
    exact ⟨rfl, HB_1.out⟩
  rw [szOf_pos hs0]
  obtain ⟨left0, hq0⟩ : ∃ q : Int, 1048576 - ((len0 + len0b : Nat) : Int) = q := ⟨_, rfl⟩
  have hl00 : 0 ≤ left0 ∧ left0 ≤ 1048576 ∧ len0 + len0b ≤ 1048576 := by omega
  rw [hq0]
  clear hq0 hs0
  have hk_a0_0_1 := K_a0_1.out.cell 0 _ rfl
  have hk_a0_1_1 := K_a0_1.out.cell 1 _ rfl
  have hk_a0_2_1 := K_a0_1.out.cell 2 _ rfl
  go_wp2_with fail
  refine (toRat_any s0 a0 len0 cap0 z0 a0b len0b cap0b z0b _ (HA0.out.below HB_1.out (Nat.le_refl _)) (HA0b.out.below HB_1.out (Nat.le_refl _)) (by omega) (by omega)).mono ?_
  rintro e w2 ⟨v_t0, v_t0b, rfl, ho_t0, ho_t0b, ap01, ap10, hb⟩
  obtain ⟨A_t0, c_t0, hv⟩ := ho_t0.shape
  rw [HZ0.out] at hv
  subst hv
  obtain ⟨A_t0b, c_t0b, hv⟩ := ho_t0b.shape
  rw [HZ0b.out] at hv
  subst hv
  have AP_t0_t0b := Lib.hid ap01
  clear ap01
  have AP_t0b_t0 := Lib.hid ap10
  clear ap10
  have H_t0_0 := Lib.hid (ho_t0.based HB_1.out.size)
  clear ho_t0
  have H_t0b_0 := Lib.hid (ho_t0b.based HB_1.out.size)
  clear ho_t0b
  have K_a0_2 := Lib.hid (K_a0_1.out.after hb)
  clear K_a0_1
  have HB_2 := Lib.hid (HB_1.out.trans (hb.mono HB_1.out.size))
  clear hb HB_1
  clear hk_a0_0_1
  clear hk_a0_1_1
  clear hk_a0_2_1
  go_wp2_with fail
  refine (ratNeg_spec s0 A_t0 len0 c_t0 z0 A_t0b len0b c_t0b z0b _ H_t0_0.out.arg H_t0b_0.out.arg).mono ?_
  rintro e w3 ⟨v_w0, v_w0b, rfl, ho_w0, ho_w0b, ap01, ap10, hb⟩
  rw [HS0.out]
  rw [HR0.out] at ho_w0
  obtain ⟨A_w0, c_w0, hv⟩ := ho_w0.shape
  rw [HN0.out] at hv
  subst hv
  rw [HR0b.out] at ho_w0b
  obtain ⟨A_w0b, c_w0b, hv⟩ := ho_w0b.shape
  rw [HN0b.out] at hv
  subst hv
  have AP_w0_w0b := Lib.hid ap01
  clear ap01
  have AP_w0b_w0 := Lib.hid ap10
  clear ap10
  have AP_t0_w0 := Lib.hid (OwnV.apart H_t0_0.out ho_w0 (Nat.le_refl _))
  have AP_w0_t0 := Lib.hid (OwnV.apart' ho_w0 H_t0_0.out (Nat.le_refl _))
  have AP_t0b_w0 := Lib.hid (OwnV.apart H_t0b_0.out ho_w0 (Nat.le_refl _))
  have AP_w0_t0b := Lib.hid (OwnV.apart' ho_w0 H_t0b_0.out (Nat.le_refl _))
  have H_w0_0 := Lib.hid (ho_w0.based HB_2.out.size)
  clear ho_w0
  have AP_t0_w0b := Lib.hid (OwnV.apart H_t0_0.out ho_w0b (Nat.le_refl _))
  have AP_w0b_t0 := Lib.hid (OwnV.apart' ho_w0b H_t0_0.out (Nat.le_refl _))
  have AP_t0b_w0b := Lib.hid (OwnV.apart H_t0b_0.out ho_w0b (Nat.le_refl _))
  have AP_w0b_t0b := Lib.hid (OwnV.apart' ho_w0b H_t0b_0.out (Nat.le_refl _))
  have H_w0b_0 := Lib.hid (ho_w0b.based HB_2.out.size)
  clear ho_w0b
  have K_a0_3 := Lib.hid (K_a0_2.out.after hb)
  clear K_a0_2
  have H_t0_3 := Lib.hid (OwnV.below (w := w2) H_t0_0.out hb)
  clear H_t0_0
  have H_t0b_3 := Lib.hid (OwnV.below (w := w2) H_t0b_0.out hb)
  clear H_t0b_0
  have HB_3 := Lib.hid (HB_2.out.trans (hb.mono HB_2.out.size))
  clear hb HB_2
  have K_a0_4 := Lib.hid (K_a0_3.out.alloc (.cells #[.bool RS0, .slice A_w0 n0 c_w0, .slice A_w0b n0b c_w0b] 31))
  clear K_a0_3
  have K_w0_4 := Lib.hid (HeldL.new w3 [.bool RS0, .slice A_w0 n0 c_w0, .slice A_w0b n0b c_w0b] 31)
  have H_t0_4 := Lib.hid (OwnV.below H_t0_3.out ((Below.refl _ w3).alloc (Nat.le_refl _) (.cells #[.bool RS0, .slice A_w0 n0 c_w0, .slice A_w0b n0b c_w0b] 31)))
  clear H_t0_3
  have H_t0b_4 := Lib.hid (OwnV.below H_t0b_3.out ((Below.refl _ w3).alloc (Nat.le_refl _) (.cells #[.bool RS0, .slice A_w0 n0 c_w0, .slice A_w0b n0b c_w0b] 31)))
  clear H_t0b_3
  have H_w0_4 := Lib.hid (OwnV.below H_w0_0.out ((Below.refl _ w3).alloc (Nat.le_refl _) (.cells #[.bool RS0, .slice A_w0 n0 c_w0, .slice A_w0b n0b c_w0b] 31)))
  clear H_w0_0
  have H_w0b_4 := Lib.hid (OwnV.below H_w0b_0.out ((Below.refl _ w3).alloc (Nat.le_refl _) (.cells #[.bool RS0, .slice A_w0 n0 c_w0, .slice A_w0b n0b c_w0b] 31)))
  clear H_w0b_0
  have HB_4 := Lib.hid (HB_3.out.alloc HB_3.out.size (.cells #[.bool RS0, .slice A_w0 n0 c_w0, .slice A_w0b n0b c_w0b] 31))
  clear HB_3
  clear H_t0_4
  clear H_t0b_4
  have hk_a0_0_4 := K_a0_4.out.cell 0 _ rfl
  have hk_a0_1_4 := K_a0_4.out.cell 1 _ rfl
  have hk_a0_2_4 := K_a0_4.out.cell 2 _ rfl
  go_wp2_with fail
  refine (toRat_any s0 a0 len0 cap0 z0 a0b len0b cap0b z0b _ (HA0.out.below HB_4.out (Nat.le_refl _)) (HA0b.out.below HB_4.out (Nat.le_refl _)) (by omega) (by omega)).mono ?_
  rintro e w4 ⟨v_x0, v_x0b, rfl, ho_x0, ho_x0b, ap01, ap10, hb⟩
  obtain ⟨A_x0, c_x0, hv⟩ := ho_x0.shape
  rw [HZ0.out] at hv
  subst hv
  obtain ⟨A_x0b, c_x0b, hv⟩ := ho_x0b.shape
  rw [HZ0b.out] at hv
  subst hv
  have AP_x0_x0b := Lib.hid ap01
  clear ap01
  have AP_x0b_x0 := Lib.hid ap10
  clear ap10
  have AP_w0_x0 := Lib.hid (OwnV.apart H_w0_4.out ho_x0 (Nat.le_refl _))
  have AP_x0_w0 := Lib.hid (OwnV.apart' ho_x0 H_w0_4.out (Nat.le_refl _))
  have AP_w0b_x0 := Lib.hid (OwnV.apart H_w0b_4.out ho_x0 (Nat.le_refl _))
  have AP_x0_w0b := Lib.hid (OwnV.apart' ho_x0 H_w0b_4.out (Nat.le_refl _))
  have BN_a0_x0 := Lib.hid (OwnV.bn ho_x0 K_a0_4.out.lt)
  have BN_w0_x0 := Lib.hid (OwnV.bn ho_x0 K_w0_4.out.lt)
  have H_x0_0 := Lib.hid (ho_x0.based HB_4.out.size)
  clear ho_x0
  have AP_w0_x0b := Lib.hid (OwnV.apart H_w0_4.out ho_x0b (Nat.le_refl _))
  have AP_x0b_w0 := Lib.hid (OwnV.apart' ho_x0b H_w0_4.out (Nat.le_refl _))
  have AP_w0b_x0b := Lib.hid (OwnV.apart H_w0b_4.out ho_x0b (Nat.le_refl _))
  have AP_x0b_w0b := Lib.hid (OwnV.apart' ho_x0b H_w0b_4.out (Nat.le_refl _))
  have BN_a0_x0b := Lib.hid (OwnV.bn ho_x0b K_a0_4.out.lt)
  have BN_w0_x0b := Lib.hid (OwnV.bn ho_x0b K_w0_4.out.lt)
  have H_x0b_0 := Lib.hid (ho_x0b.based HB_4.out.size)
  clear ho_x0b
  have K_a0_5 := Lib.hid (K_a0_4.out.after hb)
  clear K_a0_4
  have K_w0_5 := Lib.hid (K_w0_4.out.after hb)
  clear K_w0_4
  have H_w0_5 := Lib.hid (OwnV.below (w := (w3.alloc (.cells #[.bool RS0, .slice A_w0 n0 c_w0, .slice A_w0b n0b c_w0b] 31))) H_w0_4.out hb)
  clear H_w0_4
  have H_w0b_5 := Lib.hid (OwnV.below (w := (w3.alloc (.cells #[.bool RS0, .slice A_w0 n0 c_w0, .slice A_w0b n0b c_w0b] 31))) H_w0b_4.out hb)
  clear H_w0b_4
  have HB_5 := Lib.hid (HB_4.out.trans (hb.mono HB_4.out.size))
  clear hb HB_4
  clear hk_a0_0_4
  clear hk_a0_1_4
  clear hk_a0_2_4
  have K_a0_6 := Lib.hid (K_a0_5.out.alloc (.cells #[.bool s0, .slice A_x0 len0 c_x0, .slice A_x0b len0b c_x0b] 31))
  clear K_a0_5
  have K_w0_6 := Lib.hid (K_w0_5.out.alloc (.cells #[.bool s0, .slice A_x0 len0 c_x0, .slice A_x0b len0b c_x0b] 31))
  clear K_w0_5
  have K_x0_6 := Lib.hid (HeldL.new w4 [.bool s0, .slice A_x0 len0 c_x0, .slice A_x0b len0b c_x0b] 31)
  have H_w0_6 := Lib.hid (OwnV.below H_w0_5.out ((Below.refl _ w4).alloc (Nat.le_refl _) (.cells #[.bool s0, .slice A_x0 len0 c_x0, .slice A_x0b len0b c_x0b] 31)))
  clear H_w0_5
  have H_w0b_6 := Lib.hid (OwnV.below H_w0b_5.out ((Below.refl _ w4).alloc (Nat.le_refl _) (.cells #[.bool s0, .slice A_x0 len0 c_x0, .slice A_x0b len0b c_x0b] 31)))
  clear H_w0b_5
  have BN_x0_x0 := Lib.hid (OwnV.bn_new H_x0_0.out)
  have H_x0_6 := Lib.hid (OwnV.below H_x0_0.out ((Below.refl _ w4).alloc (Nat.le_refl _) (.cells #[.bool s0, .slice A_x0 len0 c_x0, .slice A_x0b len0b c_x0b] 31)))
  clear H_x0_0
  have BN_x0_x0b := Lib.hid (OwnV.bn_new H_x0b_0.out)
  have H_x0b_6 := Lib.hid (OwnV.below H_x0b_0.out ((Below.refl _ w4).alloc (Nat.le_refl _) (.cells #[.bool s0, .slice A_x0 len0 c_x0, .slice A_x0b len0b c_x0b] 31)))
  clear H_x0b_0
  have HB_6 := Lib.hid (HB_5.out.alloc HB_5.out.size (.cells #[.bool s0, .slice A_x0 len0 c_x0, .slice A_x0b len0b c_x0b] 31))
  clear HB_5
  have hk_x0_0_6 := K_x0_6.out.cell 0 _ rfl
  have hk_x0_1_6 := K_x0_6.out.cell 1 _ rfl
  have hk_x0_2_6 := K_x0_6.out.cell 2 _ rfl
  go_wp2_with fail
  refine (ratNeg_impl s0 A_x0 len0 c_x0 z0 A_x0b len0b c_x0b z0b _ H_x0_6.out.arg H_x0b_6.out.arg).mono ?_
  rintro e w5 ⟨v_g0, v_g0b, rfl, ho_g0, ho_g0b, ap01, ap10, hb⟩
  rw [HS0.out]
  rw [HR0.out] at ho_g0
  obtain ⟨A_g0, c_g0, hv⟩ := ho_g0.shape
  rw [HN0.out] at hv
  subst hv
  rw [HR0b.out] at ho_g0b
  obtain ⟨A_g0b, c_g0b, hv⟩ := ho_g0b.shape
  rw [HN0b.out] at hv
  subst hv
  have AP_g0_g0b := Lib.hid ap01
  clear ap01
  have AP_g0b_g0 := Lib.hid ap10
  clear ap10
  have AP_w0_g0 := Lib.hid (OwnV.apart H_w0_6.out ho_g0 (Nat.le_refl _))
  have AP_g0_w0 := Lib.hid (OwnV.apart' ho_g0 H_w0_6.out (Nat.le_refl _))
  have AP_w0b_g0 := Lib.hid (OwnV.apart H_w0b_6.out ho_g0 (Nat.le_refl _))
  have AP_g0_w0b := Lib.hid (OwnV.apart' ho_g0 H_w0b_6.out (Nat.le_refl _))
  have AP_x0_g0 := Lib.hid (OwnV.apart H_x0_6.out ho_g0 (Nat.le_refl _))
  have AP_g0_x0 := Lib.hid (OwnV.apart' ho_g0 H_x0_6.out (Nat.le_refl _))
  have AP_x0b_g0 := Lib.hid (OwnV.apart H_x0b_6.out ho_g0 (Nat.le_refl _))
  have AP_g0_x0b := Lib.hid (OwnV.apart' ho_g0 H_x0b_6.out (Nat.le_refl _))
  have BN_a0_g0 := Lib.hid (OwnV.bn ho_g0 K_a0_6.out.lt)
  have BN_w0_g0 := Lib.hid (OwnV.bn ho_g0 K_w0_6.out.lt)
  have BN_x0_g0 := Lib.hid (OwnV.bn ho_g0 K_x0_6.out.lt)
  have H_g0_0 := Lib.hid (ho_g0.based HB_6.out.size)
  clear ho_g0
  have AP_w0_g0b := Lib.hid (OwnV.apart H_w0_6.out ho_g0b (Nat.le_refl _))
  have AP_g0b_w0 := Lib.hid (OwnV.apart' ho_g0b H_w0_6.out (Nat.le_refl _))
  have AP_w0b_g0b := Lib.hid (OwnV.apart H_w0b_6.out ho_g0b (Nat.le_refl _))
  have AP_g0b_w0b := Lib.hid (OwnV.apart' ho_g0b H_w0b_6.out (Nat.le_refl _))
  have AP_x0_g0b := Lib.hid (OwnV.apart H_x0_6.out ho_g0b (Nat.le_refl _))
  have AP_g0b_x0 := Lib.hid (OwnV.apart' ho_g0b H_x0_6.out (Nat.le_refl _))
  have AP_x0b_g0b := Lib.hid (OwnV.apart H_x0b_6.out ho_g0b (Nat.le_refl _))
  have AP_g0b_x0b := Lib.hid (OwnV.apart' ho_g0b H_x0b_6.out (Nat.le_refl _))
  have BN_a0_g0b := Lib.hid (OwnV.bn ho_g0b K_a0_6.out.lt)
  have BN_w0_g0b := Lib.hid (OwnV.bn ho_g0b K_w0_6.out.lt)
  have BN_x0_g0b := Lib.hid (OwnV.bn ho_g0b K_x0_6.out.lt)
  have H_g0b_0 := Lib.hid (ho_g0b.based HB_6.out.size)
  clear ho_g0b
  have K_a0_7 := Lib.hid (K_a0_6.out.after hb)
  clear K_a0_6
  have K_w0_7 := Lib.hid (K_w0_6.out.after hb)
  clear K_w0_6
  have K_x0_7 := Lib.hid (K_x0_6.out.after hb)
  clear K_x0_6
  have H_w0_7 := Lib.hid (OwnV.below (w := (w4.alloc (.cells #[.bool s0, .slice A_x0 len0 c_x0, .slice A_x0b len0b c_x0b] 31))) H_w0_6.out hb)
  clear H_w0_6
  have H_w0b_7 := Lib.hid (OwnV.below (w := (w4.alloc (.cells #[.bool s0, .slice A_x0 len0 c_x0, .slice A_x0b len0b c_x0b] 31))) H_w0b_6.out hb)
  clear H_w0b_6
  have H_x0_7 := Lib.hid (OwnV.below (w := (w4.alloc (.cells #[.bool s0, .slice A_x0 len0 c_x0, .slice A_x0b len0b c_x0b] 31))) H_x0_6.out hb)
  clear H_x0_6
  have H_x0b_7 := Lib.hid (OwnV.below (w := (w4.alloc (.cells #[.bool s0, .slice A_x0 len0 c_x0, .slice A_x0b len0b c_x0b] 31))) H_x0b_6.out hb)
  clear H_x0b_6
  have HB_7 := Lib.hid (HB_6.out.trans (hb.mono HB_6.out.size))
  clear hb HB_6
  have K_a0_8 := Lib.hid (K_a0_7.out.alloc (.cells #[.bool RS0, .slice A_g0 n0 c_g0, .slice A_g0b n0b c_g0b] 31))
  clear K_a0_7
  have K_w0_8 := Lib.hid (K_w0_7.out.alloc (.cells #[.bool RS0, .slice A_g0 n0 c_g0, .slice A_g0b n0b c_g0b] 31))
  clear K_w0_7
  have K_x0_8 := Lib.hid (K_x0_7.out.alloc (.cells #[.bool RS0, .slice A_g0 n0 c_g0, .slice A_g0b n0b c_g0b] 31))
  clear K_x0_7
  have K_g0_8 := Lib.hid (HeldL.new w5 [.bool RS0, .slice A_g0 n0 c_g0, .slice A_g0b n0b c_g0b] 31)
  have H_w0_8 := Lib.hid (OwnV.below H_w0_7.out ((Below.refl _ w5).alloc (Nat.le_refl _) (.cells #[.bool RS0, .slice A_g0 n0 c_g0, .slice A_g0b n0b c_g0b] 31)))
  clear H_w0_7
  have H_w0b_8 := Lib.hid (OwnV.below H_w0b_7.out ((Below.refl _ w5).alloc (Nat.le_refl _) (.cells #[.bool RS0, .slice A_g0 n0 c_g0, .slice A_g0b n0b c_g0b] 31)))
  clear H_w0b_7
  have BN_g0_x0 := Lib.hid (OwnV.bn_new H_x0_7.out)
  have H_x0_8 := Lib.hid (OwnV.below H_x0_7.out ((Below.refl _ w5).alloc (Nat.le_refl _) (.cells #[.bool RS0, .slice A_g0 n0 c_g0, .slice A_g0b n0b c_g0b] 31)))
  clear H_x0_7
  have BN_g0_x0b := Lib.hid (OwnV.bn_new H_x0b_7.out)
  have H_x0b_8 := Lib.hid (OwnV.below H_x0b_7.out ((Below.refl _ w5).alloc (Nat.le_refl _) (.cells #[.bool RS0, .slice A_g0 n0 c_g0, .slice A_g0b n0b c_g0b] 31)))
  clear H_x0b_7
  have BN_g0_g0 := Lib.hid (OwnV.bn_new H_g0_0.out)
  have H_g0_8 := Lib.hid (OwnV.below H_g0_0.out ((Below.refl _ w5).alloc (Nat.le_refl _) (.cells #[.bool RS0, .slice A_g0 n0 c_g0, .slice A_g0b n0b c_g0b] 31)))
  clear H_g0_0
  have BN_g0_g0b := Lib.hid (OwnV.bn_new H_g0b_0.out)
  have H_g0b_8 := Lib.hid (OwnV.below H_g0b_0.out ((Below.refl _ w5).alloc (Nat.le_refl _) (.cells #[.bool RS0, .slice A_g0 n0 c_g0, .slice A_g0b n0b c_g0b] 31)))
  clear H_g0b_0
  have HB_8 := Lib.hid (HB_7.out.alloc HB_7.out.size (.cells #[.bool RS0, .slice A_g0 n0 c_g0, .slice A_g0b n0b c_g0b] 31))
  clear HB_7
  clear hk_x0_0_6
  clear hk_x0_1_6
  clear hk_x0_2_6
  have hk_g0_0_8 := K_g0_8.out.cell 0 _ rfl
  have hk_g0_1_8 := K_g0_8.out.cell 1 _ rfl
  have hk_g0_2_8 := K_g0_8.out.cell 2 _ rfl
  have hk_w0_0_8 := K_w0_8.out.cell 0 _ rfl
  have hk_w0_1_8 := K_w0_8.out.cell 1 _ rfl
  have hk_w0_2_8 := K_w0_8.out.cell 2 _ rfl
  go_wp2_with fail
  refine (eqRat_same RS0 A_g0 A_w0 n0 c_g0 c_w0 R0 A_g0b A_w0b n0b c_g0b c_w0b R0b _ H_g0_8.out.row H_w0_8.out.row H_g0b_8.out.row H_w0b_8.out.row (by unfold maxLen; omega) (by unfold maxLen; omega)).mono ?_
  rintro e w6 ⟨rfl, hb⟩
  have K_a0_9 := Lib.hid (K_a0_8.out.after hb)
  clear K_a0_8
  have K_w0_9 := Lib.hid (K_w0_8.out.after hb)
  clear K_w0_8
  have K_x0_9 := Lib.hid (K_x0_8.out.after hb)
  clear K_x0_8
  have K_g0_9 := Lib.hid (K_g0_8.out.after hb)
  clear K_g0_8
  have H_w0_9 := Lib.hid (OwnV.below (w := (w5.alloc (.cells #[.bool RS0, .slice A_g0 n0 c_g0, .slice A_g0b n0b c_g0b] 31))) H_w0_8.out hb)
  clear H_w0_8
  have H_w0b_9 := Lib.hid (OwnV.below (w := (w5.alloc (.cells #[.bool RS0, .slice A_g0 n0 c_g0, .slice A_g0b n0b c_g0b] 31))) H_w0b_8.out hb)
  clear H_w0b_8
  have H_x0_9 := Lib.hid (OwnV.below (w := (w5.alloc (.cells #[.bool RS0, .slice A_g0 n0 c_g0, .slice A_g0b n0b c_g0b] 31))) H_x0_8.out hb)
  clear H_x0_8
  have H_x0b_9 := Lib.hid (OwnV.below (w := (w5.alloc (.cells #[.bool RS0, .slice A_g0 n0 c_g0, .slice A_g0b n0b c_g0b] 31))) H_x0b_8.out hb)
  clear H_x0b_8
  have H_g0_9 := Lib.hid (OwnV.below (w := (w5.alloc (.cells #[.bool RS0, .slice A_g0 n0 c_g0, .slice A_g0b n0b c_g0b] 31))) H_g0_8.out hb)
  clear H_g0_8
  have H_g0b_9 := Lib.hid (OwnV.below (w := (w5.alloc (.cells #[.bool RS0, .slice A_g0 n0 c_g0, .slice A_g0b n0b c_g0b] 31))) H_g0b_8.out hb)
  clear H_g0b_8
  have HB_9 := Lib.hid (HB_8.out.trans (hb.mono HB_8.out.size))
  clear hb HB_8
  clear hk_g0_0_8
  clear hk_g0_1_8
  clear hk_g0_2_8
  clear hk_w0_0_8
  clear hk_w0_1_8
  clear hk_w0_2_8
  have hk_x0_0_9 := K_x0_9.out.cell 0 _ rfl
  have hk_x0_1_9 := K_x0_9.out.cell 1 _ rfl
  have hk_x0_2_9 := K_x0_9.out.cell 2 _ rfl
  have hk_a0_0_9 := K_a0_9.out.cell 0 _ rfl
  have hk_a0_1_9 := K_a0_9.out.cell 1 _ rfl
  have hk_a0_2_9 := K_a0_9.out.cell 2 _ rfl
  go_wp2
  go_region_held3 (fun w' => w'.cell? ⟨w4.heap.size, 0, none⟩ = some (.bool s0) ∧ w'.cell? ⟨w4.heap.size, 1, none⟩ = some (.slice A_x0 len0 c_x0) ∧ w'.cell? ⟨w4.heap.size, 2, none⟩ = some (.slice A_x0b len0b c_x0b) ∧ w'.cell? ⟨W.heap.size, 0, none⟩ = some (.bool s0) ∧ w'.cell? ⟨W.heap.size, 1, none⟩ = some (.slice a0 len0 cap0) ∧ w'.cell? ⟨W.heap.size, 2, none⟩ = some (.slice a0b len0b cap0b)) (go_keep)
    (first
      | (go_at_call 17
         refine (toRat_any s0 a0 len0 cap0 z0 a0b len0b cap0b z0b _ (HA0.out.below HB_9.out.drew (Nat.le_refl _)) (HA0b.out.below HB_9.out.drew (Nat.le_refl _)) (by omega) (by omega)).mono ?_
         rintro e w7 ⟨v_tt0, v_tt0b, rfl, ho_tt0, ho_tt0b, ap01, ap10, hb⟩
         obtain ⟨A_tt0, c_tt0, hv⟩ := ho_tt0.shape
         rw [HZ0.out] at hv
         subst hv
         obtain ⟨A_tt0b, c_tt0b, hv⟩ := ho_tt0b.shape
         rw [HZ0b.out] at hv
         subst hv
         have AP_tt0_tt0b := Lib.hid ap01
         clear ap01
         have AP_tt0b_tt0 := Lib.hid ap10
         clear ap10
         have H_tt0_0 := Lib.hid (ho_tt0.based HB_9.out.drew.size)
         clear ho_tt0
         have H_tt0b_0 := Lib.hid (ho_tt0b.based HB_9.out.drew.size)
         clear ho_tt0b
         have K_a0_10 := Lib.hid (K_a0_9.out.drew.after hb)
         clear K_a0_9
         have K_w0_10 := Lib.hid (K_w0_9.out.drew.after hb)
         clear K_w0_9
         have K_x0_10 := Lib.hid (K_x0_9.out.drew.after hb)
         clear K_x0_9
         have K_g0_10 := Lib.hid (K_g0_9.out.drew.after hb)
         clear K_g0_9
         have H_w0_10 := Lib.hid (OwnV.below (w := w6.drew) H_w0_9.out hb)
         clear H_w0_9
         have H_w0b_10 := Lib.hid (OwnV.below (w := w6.drew) H_w0b_9.out hb)
         clear H_w0b_9
         have H_x0_10 := Lib.hid (OwnV.below (w := w6.drew) H_x0_9.out hb)
         clear H_x0_9
         have H_x0b_10 := Lib.hid (OwnV.below (w := w6.drew) H_x0b_9.out hb)
         clear H_x0b_9
         have H_g0_10 := Lib.hid (OwnV.below (w := w6.drew) H_g0_9.out hb)
         clear H_g0_9
         have H_g0b_10 := Lib.hid (OwnV.below (w := w6.drew) H_g0b_9.out hb)
         clear H_g0b_9
         have HB_10 := Lib.hid (HB_9.out.drew.trans (hb.mono HB_9.out.drew.size))
         clear hb HB_9
         have hk_x0_0_10 := K_x0_10.out.cell 0 _ rfl
         have hk_x0_1_10 := K_x0_10.out.cell 1 _ rfl
         have hk_x0_2_10 := K_x0_10.out.cell 2 _ rfl
         have hk_a0_0_10 := K_a0_10.out.cell 0 _ rfl
         have hk_a0_1_10 := K_a0_10.out.cell 1 _ rfl
         have hk_a0_2_10 := K_a0_10.out.cell 2 _ rfl)
      | (go_at_call 19
         refine (eqRat_same s0 A_x0 A_tt0 len0 c_x0 c_tt0 z0 A_x0b A_tt0b len0b c_x0b c_tt0b z0b _ H_x0_10.out.row H_tt0_0.out.row H_x0b_10.out.row H_tt0b_0.out.row (by unfold maxLen; omega) (by unfold maxLen; omega)).mono ?_
         rintro e w8 ⟨rfl, hb⟩
         have K_a0_11 := Lib.hid (K_a0_10.out.after hb)
         clear K_a0_10
         have K_w0_11 := Lib.hid (K_w0_10.out.after hb)
         clear K_w0_10
         have K_x0_11 := Lib.hid (K_x0_10.out.after hb)
         clear K_x0_10
         have K_g0_11 := Lib.hid (K_g0_10.out.after hb)
         clear K_g0_10
         have H_w0_11 := Lib.hid (OwnV.below (w := w7) H_w0_10.out hb)
         clear H_w0_10
         have H_w0b_11 := Lib.hid (OwnV.below (w := w7) H_w0b_10.out hb)
         clear H_w0b_10
         have H_x0_11 := Lib.hid (OwnV.below (w := w7) H_x0_10.out hb)
         clear H_x0_10
         have H_x0b_11 := Lib.hid (OwnV.below (w := w7) H_x0b_10.out hb)
         clear H_x0b_10
         have H_g0_11 := Lib.hid (OwnV.below (w := w7) H_g0_10.out hb)
         clear H_g0_10
         have H_g0b_11 := Lib.hid (OwnV.below (w := w7) H_g0b_10.out hb)
         clear H_g0b_10
         have H_tt0_11 := Lib.hid (OwnV.below (w := w7) H_tt0_0.out hb)
         clear H_tt0_0
         have H_tt0b_11 := Lib.hid (OwnV.below (w := w7) H_tt0b_0.out hb)
         clear H_tt0b_0
         have HB_11 := Lib.hid (HB_10.out.trans (hb.mono HB_10.out.size))
         clear hb HB_10
         have hk_x0_0_11 := K_x0_11.out.cell 0 _ rfl
         have hk_x0_1_11 := K_x0_11.out.cell 1 _ rfl
         have hk_x0_2_11 := K_x0_11.out.cell 2 _ rfl
         have hk_a0_0_11 := K_a0_11.out.cell 0 _ rfl
         have hk_a0_1_11 := K_a0_11.out.cell 1 _ rfl
         have hk_a0_2_11 := K_a0_11.out.cell 2 _ rfl))
  clear H_tt0_11
  clear H_tt0b_11
  have hk_x0_0_11 := K_x0_11.out.cell 0 _ rfl
  have hk_x0_1_11 := K_x0_11.out.cell 1 _ rfl
  have hk_x0_2_11 := K_x0_11.out.cell 2 _ rfl
  go_wp2_with fail
  refine (markRat_at s0 A_x0 len0 c_x0 A_x0b len0b c_x0b (1) W.heap.size _ (by first | rfl | omega) _ _ _ H_x0_11.out H_x0b_11.out AP_x0_x0b.out AP_x0b_x0.out (by omega)).mono ?_
  rintro e w9 ⟨rfl, wm9, hg0, hg1, ho0, ho1⟩
  have K_a0_12 := Lib.hid ((K_a0_11.out.grown hg0 BN_a0_x0.out).grown hg1 BN_a0_x0b.out)
  clear K_a0_11
  have K_w0_12 := Lib.hid ((K_w0_11.out.grown hg0 BN_w0_x0.out).grown hg1 BN_w0_x0b.out)
  clear K_w0_11
  have K_x0_12 := Lib.hid ((K_x0_11.out.grown hg0 BN_x0_x0.out).grown hg1 BN_x0_x0b.out)
  clear K_x0_11
  have K_g0_12 := Lib.hid ((K_g0_11.out.grown hg0 BN_g0_x0.out).grown hg1 BN_g0_x0b.out)
  clear K_g0_11
  have HB_12 := Lib.hid (Below.grown (Below.grown HB_11.out hg0 (Below.size HB_11.out) (fun k hk => (H_x0_11.out.lt k hk).1)) hg1 (Below.size (Below.grown HB_11.out hg0 (Below.size HB_11.out) (fun k hk => (H_x0_11.out.lt k hk).1))) (fun k hk => (H_x0b_11.out.lt k hk).1))
  clear HB_11
  have H_w0_12 := Lib.hid ((H_w0_11.out.kept hg0 AP_w0_x0.out).kept hg1 AP_w0_x0b.out)
  clear H_w0_11
  have H_w0b_12 := Lib.hid ((H_w0b_11.out.kept hg0 AP_w0b_x0.out).kept hg1 AP_w0b_x0b.out)
  clear H_w0b_11
  have H_g0_12 := Lib.hid ((H_g0_11.out.kept hg0 AP_g0_x0.out).kept hg1 AP_g0_x0b.out)
  clear H_g0_11
  have H_g0b_12 := Lib.hid ((H_g0b_11.out.kept hg0 AP_g0b_x0.out).kept hg1 AP_g0b_x0b.out)
  clear H_g0b_11
  clear H_x0_11
  have H_x0_12 := Lib.hid ho0
  clear ho0
  clear H_x0b_11
  have H_x0b_12 := Lib.hid ho1
  clear ho1
  clear hg1 hg0
  clear H_x0_12
  clear H_x0b_12
  clear hk_x0_0_11
  clear hk_x0_1_11
  clear hk_x0_2_11
  clear K_x0_12
  have hk_g0_0_12 := K_g0_12.out.cell 0 _ rfl
  have hk_g0_1_12 := K_g0_12.out.cell 1 _ rfl
  have hk_g0_2_12 := K_g0_12.out.cell 2 _ rfl
  have hk_w0_0_12 := K_w0_12.out.cell 0 _ rfl
  have hk_w0_1_12 := K_w0_12.out.cell 1 _ rfl
  have hk_w0_2_12 := K_w0_12.out.cell 2 _ rfl
  go_wp2_with fail
  refine (eqRat_same RS0 A_g0 A_w0 n0 c_g0 c_w0 R0 A_g0b A_w0b n0b c_g0b c_w0b R0b _ H_g0_12.out.row H_w0_12.out.row H_g0b_12.out.row H_w0b_12.out.row (by unfold maxLen; omega) (by unfold maxLen; omega)).mono ?_
  rintro e w10 ⟨rfl, hb⟩
  have K_a0_13 := Lib.hid (K_a0_12.out.after hb)
  clear K_a0_12
  have K_w0_13 := Lib.hid (K_w0_12.out.after hb)
  clear K_w0_12
  have K_g0_13 := Lib.hid (K_g0_12.out.after hb)
  clear K_g0_12
  have H_w0_13 := Lib.hid (OwnV.below (w := w9) H_w0_12.out hb)
  clear H_w0_12
  have H_w0b_13 := Lib.hid (OwnV.below (w := w9) H_w0b_12.out hb)
  clear H_w0b_12
  have H_g0_13 := Lib.hid (OwnV.below (w := w9) H_g0_12.out hb)
  clear H_g0_12
  have H_g0b_13 := Lib.hid (OwnV.below (w := w9) H_g0b_12.out hb)
  clear H_g0b_12
  have HB_13 := Lib.hid (HB_12.out.trans (hb.mono HB_12.out.size))
  clear hb HB_12
  clear hk_g0_0_12
  clear hk_g0_1_12
  clear hk_g0_2_12
  clear hk_w0_0_12
  clear hk_w0_1_12
  clear hk_w0_2_12
  have hk_g0_0_13 := K_g0_13.out.cell 0 _ rfl
  have hk_g0_1_13 := K_g0_13.out.cell 1 _ rfl
  have hk_g0_2_13 := K_g0_13.out.cell 2 _ rfl
  go_wp2_with fail
  refine (markRat_at RS0 A_g0 n0 c_g0 A_g0b n0b c_g0b (1) W.heap.size _ (by first | rfl | omega) _ _ _ H_g0_13.out H_g0b_13.out AP_g0_g0b.out AP_g0b_g0.out (by omega)).mono ?_
  rintro e w11 ⟨rfl, wm11, hg0, hg1, ho0, ho1⟩
  have K_a0_14 := Lib.hid ((K_a0_13.out.grown hg0 BN_a0_g0.out).grown hg1 BN_a0_g0b.out)
  clear K_a0_13
  have K_w0_14 := Lib.hid ((K_w0_13.out.grown hg0 BN_w0_g0.out).grown hg1 BN_w0_g0b.out)
  clear K_w0_13
  have K_g0_14 := Lib.hid ((K_g0_13.out.grown hg0 BN_g0_g0.out).grown hg1 BN_g0_g0b.out)
  clear K_g0_13
  have HB_14 := Lib.hid (Below.grown (Below.grown HB_13.out hg0 (Below.size HB_13.out) (fun k hk => (H_g0_13.out.lt k hk).1)) hg1 (Below.size (Below.grown HB_13.out hg0 (Below.size HB_13.out) (fun k hk => (H_g0_13.out.lt k hk).1))) (fun k hk => (H_g0b_13.out.lt k hk).1))
  clear HB_13
  have H_w0_14 := Lib.hid ((H_w0_13.out.kept hg0 AP_w0_g0.out).kept hg1 AP_w0_g0b.out)
  clear H_w0_13
  have H_w0b_14 := Lib.hid ((H_w0b_13.out.kept hg0 AP_w0b_g0.out).kept hg1 AP_w0b_g0b.out)
  clear H_w0b_13
  clear H_g0_13
  have H_g0_14 := Lib.hid ho0
  clear ho0
  clear H_g0b_13
  have H_g0b_14 := Lib.hid ho1
  clear ho1
  clear hg1 hg0
  clear hk_g0_0_13
  clear hk_g0_1_13
  clear hk_g0_2_13
  have hk_g0_0_14 := K_g0_14.out.cell 0 _ rfl
  have hk_g0_1_14 := K_g0_14.out.cell 1 _ rfl
  have hk_g0_2_14 := K_g0_14.out.cell 2 _ rfl
  go_wp2_with fail
  refine (heldRat_at RS0 A_g0 n0 c_g0 A_g0b n0b c_g0b (1) _ (by first | rfl | omega) _ H_g0_14.out.row H_g0b_14.out.row (by omega)).mono ?_
  rintro e w12 ⟨rfl, hb⟩
  have K_a0_15 := Lib.hid (K_a0_14.out.after hb)
  clear K_a0_14
  have K_w0_15 := Lib.hid (K_w0_14.out.after hb)
  clear K_w0_14
  have K_g0_15 := Lib.hid (K_g0_14.out.after hb)
  clear K_g0_14
  have H_w0_15 := Lib.hid (OwnV.below (w := w11) H_w0_14.out hb)
  clear H_w0_14
  have H_w0b_15 := Lib.hid (OwnV.below (w := w11) H_w0b_14.out hb)
  clear H_w0b_14
  have H_g0_15 := Lib.hid (OwnV.below (w := w11) H_g0_14.out hb)
  clear H_g0_14
  have H_g0b_15 := Lib.hid (OwnV.below (w := w11) H_g0b_14.out hb)
  clear H_g0b_14
  have HB_15 := Lib.hid (HB_14.out.trans (hb.mono HB_14.out.size))
  clear hb HB_14
  clear hk_g0_0_14
  clear hk_g0_1_14
  clear hk_g0_2_14
  have hk_a0_0_15 := K_a0_15.out.cell 0 _ rfl
  have hk_a0_1_15 := K_a0_15.out.cell 1 _ rfl
  have hk_a0_2_15 := K_a0_15.out.cell 2 _ rfl
  go_wp2_with fail
  refine (toRat_any s0 a0 len0 cap0 z0 a0b len0b cap0b z0b _ (HA0.out.below HB_15.out (Nat.le_refl _)) (HA0b.out.below HB_15.out (Nat.le_refl _)) (by omega) (by omega)).mono ?_
  rintro e w13 ⟨v_ts0, v_ts0b, rfl, ho_ts0, ho_ts0b, ap01, ap10, hb⟩
  obtain ⟨A_ts0, c_ts0, hv⟩ := ho_ts0.shape
  rw [HZ0.out] at hv
  subst hv
  obtain ⟨A_ts0b, c_ts0b, hv⟩ := ho_ts0b.shape
  rw [HZ0b.out] at hv
  subst hv
  have AP_ts0_ts0b := Lib.hid ap01
  clear ap01
  have AP_ts0b_ts0 := Lib.hid ap10
  clear ap10
  have H_ts0_0 := Lib.hid (ho_ts0.based HB_15.out.size)
  clear ho_ts0
  have H_ts0b_0 := Lib.hid (ho_ts0b.based HB_15.out.size)
  clear ho_ts0b
  have K_a0_16 := Lib.hid (K_a0_15.out.after hb)
  clear K_a0_15
  have K_w0_16 := Lib.hid (K_w0_15.out.after hb)
  clear K_w0_15
  have K_g0_16 := Lib.hid (K_g0_15.out.after hb)
  clear K_g0_15
  have H_w0_16 := Lib.hid (OwnV.below (w := w12) H_w0_15.out hb)
  clear H_w0_15
  have H_w0b_16 := Lib.hid (OwnV.below (w := w12) H_w0b_15.out hb)
  clear H_w0b_15
  have H_g0_16 := Lib.hid (OwnV.below (w := w12) H_g0_15.out hb)
  clear H_g0_15
  have H_g0b_16 := Lib.hid (OwnV.below (w := w12) H_g0b_15.out hb)
  clear H_g0b_15
  have HB_16 := Lib.hid (HB_15.out.trans (hb.mono HB_15.out.size))
  clear hb HB_15
  clear hk_a0_0_15
  clear hk_a0_1_15
  clear hk_a0_2_15
  go_wp2_with fail
  refine (ratNeg_impl s0 A_ts0 len0 c_ts0 z0 A_ts0b len0b c_ts0b z0b _ H_ts0_0.out.arg H_ts0b_0.out.arg).mono ?_
  rintro e w14 ⟨v_h0, v_h0b, rfl, ho_h0, ho_h0b, ap01, ap10, hb⟩
  rw [HS0.out]
  rw [HR0.out] at ho_h0
  obtain ⟨A_h0, c_h0, hv⟩ := ho_h0.shape
  rw [HN0.out] at hv
  subst hv
  rw [HR0b.out] at ho_h0b
  obtain ⟨A_h0b, c_h0b, hv⟩ := ho_h0b.shape
  rw [HN0b.out] at hv
  subst hv
  have AP_h0_h0b := Lib.hid ap01
  clear ap01
  have AP_h0b_h0 := Lib.hid ap10
  clear ap10
  have AP_w0_h0 := Lib.hid (OwnV.apart H_w0_16.out ho_h0 (Nat.le_refl _))
  have AP_h0_w0 := Lib.hid (OwnV.apart' ho_h0 H_w0_16.out (Nat.le_refl _))
  have AP_w0b_h0 := Lib.hid (OwnV.apart H_w0b_16.out ho_h0 (Nat.le_refl _))
  have AP_h0_w0b := Lib.hid (OwnV.apart' ho_h0 H_w0b_16.out (Nat.le_refl _))
  have AP_g0_h0 := Lib.hid (OwnV.apart H_g0_16.out ho_h0 (Nat.le_refl _))
  have AP_h0_g0 := Lib.hid (OwnV.apart' ho_h0 H_g0_16.out (Nat.le_refl _))
  have AP_g0b_h0 := Lib.hid (OwnV.apart H_g0b_16.out ho_h0 (Nat.le_refl _))
  have AP_h0_g0b := Lib.hid (OwnV.apart' ho_h0 H_g0b_16.out (Nat.le_refl _))
  have AP_ts0_h0 := Lib.hid (OwnV.apart H_ts0_0.out ho_h0 (Nat.le_refl _))
  have AP_h0_ts0 := Lib.hid (OwnV.apart' ho_h0 H_ts0_0.out (Nat.le_refl _))
  have AP_ts0b_h0 := Lib.hid (OwnV.apart H_ts0b_0.out ho_h0 (Nat.le_refl _))
  have AP_h0_ts0b := Lib.hid (OwnV.apart' ho_h0 H_ts0b_0.out (Nat.le_refl _))
  have H_h0_0 := Lib.hid (ho_h0.based HB_16.out.size)
  clear ho_h0
  have AP_w0_h0b := Lib.hid (OwnV.apart H_w0_16.out ho_h0b (Nat.le_refl _))
  have AP_h0b_w0 := Lib.hid (OwnV.apart' ho_h0b H_w0_16.out (Nat.le_refl _))
  have AP_w0b_h0b := Lib.hid (OwnV.apart H_w0b_16.out ho_h0b (Nat.le_refl _))
  have AP_h0b_w0b := Lib.hid (OwnV.apart' ho_h0b H_w0b_16.out (Nat.le_refl _))
  have AP_g0_h0b := Lib.hid (OwnV.apart H_g0_16.out ho_h0b (Nat.le_refl _))
  have AP_h0b_g0 := Lib.hid (OwnV.apart' ho_h0b H_g0_16.out (Nat.le_refl _))
  have AP_g0b_h0b := Lib.hid (OwnV.apart H_g0b_16.out ho_h0b (Nat.le_refl _))
  have AP_h0b_g0b := Lib.hid (OwnV.apart' ho_h0b H_g0b_16.out (Nat.le_refl _))
  have AP_ts0_h0b := Lib.hid (OwnV.apart H_ts0_0.out ho_h0b (Nat.le_refl _))
  have AP_h0b_ts0 := Lib.hid (OwnV.apart' ho_h0b H_ts0_0.out (Nat.le_refl _))
  have AP_ts0b_h0b := Lib.hid (OwnV.apart H_ts0b_0.out ho_h0b (Nat.le_refl _))
  have AP_h0b_ts0b := Lib.hid (OwnV.apart' ho_h0b H_ts0b_0.out (Nat.le_refl _))
  have H_h0b_0 := Lib.hid (ho_h0b.based HB_16.out.size)
  clear ho_h0b
  have K_a0_17 := Lib.hid (K_a0_16.out.after hb)
  clear K_a0_16
  have K_w0_17 := Lib.hid (K_w0_16.out.after hb)
  clear K_w0_16
  have K_g0_17 := Lib.hid (K_g0_16.out.after hb)
  clear K_g0_16
  have H_w0_17 := Lib.hid (OwnV.below (w := w13) H_w0_16.out hb)
  clear H_w0_16
  have H_w0b_17 := Lib.hid (OwnV.below (w := w13) H_w0b_16.out hb)
  clear H_w0b_16
  have H_g0_17 := Lib.hid (OwnV.below (w := w13) H_g0_16.out hb)
  clear H_g0_16
  have H_g0b_17 := Lib.hid (OwnV.below (w := w13) H_g0b_16.out hb)
  clear H_g0b_16
  have H_ts0_17 := Lib.hid (OwnV.below (w := w13) H_ts0_0.out hb)
  clear H_ts0_0
  have H_ts0b_17 := Lib.hid (OwnV.below (w := w13) H_ts0b_0.out hb)
  clear H_ts0b_0
  have HB_17 := Lib.hid (HB_16.out.trans (hb.mono HB_16.out.size))
  clear hb HB_16
  have K_a0_18 := Lib.hid (K_a0_17.out.alloc (.cells #[.bool RS0, .slice A_h0 n0 c_h0, .slice A_h0b n0b c_h0b] 31))
  clear K_a0_17
  have K_w0_18 := Lib.hid (K_w0_17.out.alloc (.cells #[.bool RS0, .slice A_h0 n0 c_h0, .slice A_h0b n0b c_h0b] 31))
  clear K_w0_17
  have K_g0_18 := Lib.hid (K_g0_17.out.alloc (.cells #[.bool RS0, .slice A_h0 n0 c_h0, .slice A_h0b n0b c_h0b] 31))
  clear K_g0_17
  have K_h0_18 := Lib.hid (HeldL.new w14 [.bool RS0, .slice A_h0 n0 c_h0, .slice A_h0b n0b c_h0b] 31)
  have H_w0_18 := Lib.hid (OwnV.below H_w0_17.out ((Below.refl _ w14).alloc (Nat.le_refl _) (.cells #[.bool RS0, .slice A_h0 n0 c_h0, .slice A_h0b n0b c_h0b] 31)))
  clear H_w0_17
  have H_w0b_18 := Lib.hid (OwnV.below H_w0b_17.out ((Below.refl _ w14).alloc (Nat.le_refl _) (.cells #[.bool RS0, .slice A_h0 n0 c_h0, .slice A_h0b n0b c_h0b] 31)))
  clear H_w0b_17
  have BN_h0_g0 := Lib.hid (OwnV.bn_new H_g0_17.out)
  have H_g0_18 := Lib.hid (OwnV.below H_g0_17.out ((Below.refl _ w14).alloc (Nat.le_refl _) (.cells #[.bool RS0, .slice A_h0 n0 c_h0, .slice A_h0b n0b c_h0b] 31)))
  clear H_g0_17
  have BN_h0_g0b := Lib.hid (OwnV.bn_new H_g0b_17.out)
  have H_g0b_18 := Lib.hid (OwnV.below H_g0b_17.out ((Below.refl _ w14).alloc (Nat.le_refl _) (.cells #[.bool RS0, .slice A_h0 n0 c_h0, .slice A_h0b n0b c_h0b] 31)))
  clear H_g0b_17
  have H_ts0_18 := Lib.hid (OwnV.below H_ts0_17.out ((Below.refl _ w14).alloc (Nat.le_refl _) (.cells #[.bool RS0, .slice A_h0 n0 c_h0, .slice A_h0b n0b c_h0b] 31)))
  clear H_ts0_17
  have H_ts0b_18 := Lib.hid (OwnV.below H_ts0b_17.out ((Below.refl _ w14).alloc (Nat.le_refl _) (.cells #[.bool RS0, .slice A_h0 n0 c_h0, .slice A_h0b n0b c_h0b] 31)))
  clear H_ts0b_17
  have H_h0_18 := Lib.hid (OwnV.below H_h0_0.out ((Below.refl _ w14).alloc (Nat.le_refl _) (.cells #[.bool RS0, .slice A_h0 n0 c_h0, .slice A_h0b n0b c_h0b] 31)))
  clear H_h0_0
  have H_h0b_18 := Lib.hid (OwnV.below H_h0b_0.out ((Below.refl _ w14).alloc (Nat.le_refl _) (.cells #[.bool RS0, .slice A_h0 n0 c_h0, .slice A_h0b n0b c_h0b] 31)))
  clear H_h0b_0
  have HB_18 := Lib.hid (HB_17.out.alloc HB_17.out.size (.cells #[.bool RS0, .slice A_h0 n0 c_h0, .slice A_h0b n0b c_h0b] 31))
  clear HB_17
  clear H_ts0_18
  clear H_ts0b_18
  have hk_h0_0_18 := K_h0_18.out.cell 0 _ rfl
  have hk_h0_1_18 := K_h0_18.out.cell 1 _ rfl
  have hk_h0_2_18 := K_h0_18.out.cell 2 _ rfl
  have hk_w0_0_18 := K_w0_18.out.cell 0 _ rfl
  have hk_w0_1_18 := K_w0_18.out.cell 1 _ rfl
  have hk_w0_2_18 := K_w0_18.out.cell 2 _ rfl
  go_wp2_with fail
  refine (eqRat_same RS0 A_h0 A_w0 n0 c_h0 c_w0 R0 A_h0b A_w0b n0b c_h0b c_w0b R0b _ H_h0_18.out.row H_w0_18.out.row H_h0b_18.out.row H_w0b_18.out.row (by unfold maxLen; omega) (by unfold maxLen; omega)).mono ?_
  rintro e w15 ⟨rfl, hb⟩
  have K_a0_19 := Lib.hid (K_a0_18.out.after hb)
  clear K_a0_18
  have K_w0_19 := Lib.hid (K_w0_18.out.after hb)
  clear K_w0_18
  have K_g0_19 := Lib.hid (K_g0_18.out.after hb)
  clear K_g0_18
  have K_h0_19 := Lib.hid (K_h0_18.out.after hb)
  clear K_h0_18
  have H_w0_19 := Lib.hid (OwnV.below (w := (w14.alloc (.cells #[.bool RS0, .slice A_h0 n0 c_h0, .slice A_h0b n0b c_h0b] 31))) H_w0_18.out hb)
  clear H_w0_18
  have H_w0b_19 := Lib.hid (OwnV.below (w := (w14.alloc (.cells #[.bool RS0, .slice A_h0 n0 c_h0, .slice A_h0b n0b c_h0b] 31))) H_w0b_18.out hb)
  clear H_w0b_18
  have H_g0_19 := Lib.hid (OwnV.below (w := (w14.alloc (.cells #[.bool RS0, .slice A_h0 n0 c_h0, .slice A_h0b n0b c_h0b] 31))) H_g0_18.out hb)
  clear H_g0_18
  have H_g0b_19 := Lib.hid (OwnV.below (w := (w14.alloc (.cells #[.bool RS0, .slice A_h0 n0 c_h0, .slice A_h0b n0b c_h0b] 31))) H_g0b_18.out hb)
  clear H_g0b_18
  have H_h0_19 := Lib.hid (OwnV.below (w := (w14.alloc (.cells #[.bool RS0, .slice A_h0 n0 c_h0, .slice A_h0b n0b c_h0b] 31))) H_h0_18.out hb)
  clear H_h0_18
  have H_h0b_19 := Lib.hid (OwnV.below (w := (w14.alloc (.cells #[.bool RS0, .slice A_h0 n0 c_h0, .slice A_h0b n0b c_h0b] 31))) H_h0b_18.out hb)
  clear H_h0b_18
  have HB_19 := Lib.hid (HB_18.out.trans (hb.mono HB_18.out.size))
  clear hb HB_18
  clear hk_h0_0_18
  clear hk_h0_1_18
  clear hk_h0_2_18
  clear hk_w0_0_18
  clear hk_w0_1_18
  clear hk_w0_2_18
  have hk_g0_0_19 := K_g0_19.out.cell 0 _ rfl
  have hk_g0_1_19 := K_g0_19.out.cell 1 _ rfl
  have hk_g0_2_19 := K_g0_19.out.cell 2 _ rfl
  go_wp2_with fail
  refine (heldRat_at RS0 A_g0 n0 c_g0 A_g0b n0b c_g0b (1) _ (by first | rfl | omega) _ H_g0_19.out.row H_g0b_19.out.row (by omega)).mono ?_
  rintro e w16 ⟨rfl, hb⟩
  have K_a0_20 := Lib.hid (K_a0_19.out.after hb)
  clear K_a0_19
  have K_w0_20 := Lib.hid (K_w0_19.out.after hb)
  clear K_w0_19
  have K_g0_20 := Lib.hid (K_g0_19.out.after hb)
  clear K_g0_19
  have K_h0_20 := Lib.hid (K_h0_19.out.after hb)
  clear K_h0_19
  have H_w0_20 := Lib.hid (OwnV.below (w := w15) H_w0_19.out hb)
  clear H_w0_19
  have H_w0b_20 := Lib.hid (OwnV.below (w := w15) H_w0b_19.out hb)
  clear H_w0b_19
  have H_g0_20 := Lib.hid (OwnV.below (w := w15) H_g0_19.out hb)
  clear H_g0_19
  have H_g0b_20 := Lib.hid (OwnV.below (w := w15) H_g0b_19.out hb)
  clear H_g0b_19
  have H_h0_20 := Lib.hid (OwnV.below (w := w15) H_h0_19.out hb)
  clear H_h0_19
  have H_h0b_20 := Lib.hid (OwnV.below (w := w15) H_h0b_19.out hb)
  clear H_h0b_19
  have HB_20 := Lib.hid (HB_19.out.trans (hb.mono HB_19.out.size))
  clear hb HB_19
  clear hk_g0_0_19
  clear hk_g0_1_19
  clear hk_g0_2_19
  go_wp2
  go_ret
  exact ⟨rfl, HB_20.out⟩

set_option maxRecDepth 100000 in
theorem lifted (os : Os) (started : os.Started) (H : Type) (enc : TypeId × Value → H) :
    ReturnsInHanded {} Try.checked os 8 .any (Rows.fnExactRatNegSpec.pre6 enc Try.prog Try.f8 Rows.fnExactRatNegRow.domain false) (Rows.fnExactRatNegSpec.post enc Try.prog Try.f8 false true false false) := by
  refine returnsInHanded_of_change (C := Try.checked) own started (by kernel_rfl) Try.func8
    (ChangeSpec.witness6 (enc := enc) (C := Try.checked) false ⟨#[], #[.agg #[.bool false, .slice none 0 0, .slice none 0 0]], []⟩ 8 (by kernel_rfl) (by kernel_rfl) (by kernel_rfl) (by kernel_rfl)) ?_
  intro W base args ds gs before hval0 hW hcnd _
  have hval : ∀ (j : Nat) t v, Try.f8.params[j]? = some t → args[j]? = some v → Value.okWide Try.prog W .any base t v := hval0
  have hW' := hW
  obtain ⟨p, q, hA0, hV, rfl, hfz, hnd⟩ := hW
  have hA : DataW.TrodAll enc Try.prog W 0 (fun _ => true) true Try.f8.params.toList args.toList ds p := hA0
  rw [Try.params8] at hA hval
  obtain ⟨v0, vs0, d0, ds0, p0, q0, hargs, rfl, rfl, h0, r0⟩ := trodAll_cons hA
  obtain ⟨rfl, rfl, rfl⟩ := trodAll_nil r0
  obtain rfl : args = #[v0] := by cases args; simp_all
  obtain ⟨rfl, rfl⟩ := trodVars_none hV
  have k0 := h0
  have lt0 : ∀ x ∈ p0, x.block < W.heap.size := by obtain ⟨m, hm⟩ := k0; exact DataW.trod_lt m _ _ _ hm
  obtain ⟨s0, a0, len0, cap0, z0, a0b, len0b, cap0b, z0b, rfl, w0, w0b⟩ := isRat_of Try.underlying26 Try.underlying24 (by kernel_rfl) (by kernel_rfl) (by kernel_rfl) (by kernel_rfl) (by kernel_rfl) (by kernel_rfl) Try.underlying4 Try.underlying22 Try.underlying22 Try.underlying3 (by kernel_rfl) (hval 0 26 v0 rfl rfl) h0
  clear hA0 hval0
  refine (walk W s0 a0 len0 cap0 z0 w0 a0b len0b cap0b z0b w0b).mono fun e W' ⟨he, bel⟩ => ?_
  subst he
  exact ⟨_, rfl, _, _, _, [], _, [], hW', trodAll_mk1 (shut_bool Try.underlying4 _), (trodAll_cons_mk (Below.trod laidOut (by kernel_rfl) (of_decide_eq_true (by kernel_rfl)) k0 bel lt0) trodAll_mk0), rfl, bel.frame _, fun h => by cases h⟩

theorem over : Rows.fnExactRatNegRow.holds Try.pinned (OpenSpec.ofChange Rows.fnExactRatNegSpec) :=
  OpenClaim.holds_of_wide 8 Try.f8 rfl rfl rfl rfl rfl rfl rfl ⟨rfl, rfl, rfl, rfl, rfl⟩ rfl rfl rfl rfl rfl (by kernel_rfl) Try.func8 (by kernel_rfl)
    (of_decide_eq_true (by kernel_rfl)) (by unfold Func.isWrapper; first | (rw [if_pos (by decide +kernel)]; kernel_rfl) | (rw [if_neg (by decide +kernel)]; exact ⟨rfl, rfl⟩))
    (fun os started H enc _ => lifted os started H enc)

theorem proved : Rows.FnExactRatNegSaid := over
#print axioms proved
end Go.Proofs.Ytbblfledkmcfmaa.lawRatNeg
