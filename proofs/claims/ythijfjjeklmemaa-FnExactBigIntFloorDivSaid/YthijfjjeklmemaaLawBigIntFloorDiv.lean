/- Proved: at all big integers and rows, impl.BigIntFloorDiv answers as its model spec.BigIntFloorDiv in every result, writes into no argument, its answer owns its memory, the call returns true and changes no memory that was there. Conditions: none. -/
import Derived.Test.YthijfjjeklmemaaRows
import Derived.Test.YthijfjjeklmemaaHelpI
import Derived.Test.YthijfjjeklmemaaOpen
import Derived.Test.YthijfjjeklmemaaOpenB
import Derived.Test.YthijfjjeklmemaaBigDiv
import Derived.WalkKit
import Derived.ProofKit
import Derived.OpenShut
import Derived.ShutString
import Derived.ChangeOld
import Derived.Below
namespace Go.Proofs.Ythijfjjeklmemaa.lawBigIntFloorDiv
open Go.ChangeShapes Go.WideShapes Go.ChangeAt Go.RowKit
open Go.ChangeMaps (open_string shut_string)
set_option linter.unusedVariables false

theorem own : ownKnob Try.prog.godebug = none := by kernel_rfl
theorem laidOut : laidOutB Try.prog = true := by kernel_rfl
open Nt

set_option maxRecDepth 100000 in
set_option maxHeartbeats 4000000 in
theorem walk (W : World) (s0 : Bool) (a0 : Option Addr) (len0 cap0 : Nat) (z0 : List Int) (w0 : IsInts .i64 W a0 len0 cap0 z0) (a1 : Option Addr) (len1 cap1 : Nat) (z1 : List Int) (w1 : IsInts .i64 W a1 len1 cap1 z1) :
    Calls Try.prog 11 #[.agg #[.bool s0, .slice a0 len0 cap0], .slice a1 len1 cap1] W fun e w' => e = .returned (.bool true) ∧ Below W.heap.size W w' := by
  obtain ⟨hA0, hcap0, hcm0, hzs0⟩ := w0
  have hlm0 : len0 ≤ 9223372036854775807 := by unfold maxLen at hcm0; omega
  have HZ0 := Lib.hid (show (ints z0).length = len0 from hA0.1)
  have HA0 := Lib.hid (show VRow W a0 len0 (ints z0) from hA0)
  clear hA0 hzs0 hcm0
  obtain ⟨hA1, hcap1, hcm1, hzs1⟩ := w1
  have hlm1 : len1 ≤ 9223372036854775807 := by unfold maxLen at hcm1; omega
  have HZ1 := Lib.hid (show (ints z1).length = len1 from hA1.1)
  have HA1 := Lib.hid (show VRow W a1 len1 (ints z1) from hA1)
  clear hA1 hzs1 hcm1
  by_cases hs1 : 1048576 < len1
  · go_enter Try.func11, Try.ntmps11
    go_wp2
    go_ret
    exact ⟨rfl, (Below.refl _ _).alloc (Nat.le_refl _) _⟩
  obtain ⟨R0, hR0⟩ : ∃ R : List Int, nats (fM s0 z0 z1) = ints R := ⟨_, rfl⟩
  have hN0 : R0.length ≤ 1048576 := by have h : (nats (fM s0 z0 z1)).length ≤ 1048576 := (by rw [nats_len]; exact Nat.le_trans (fM_len _ _ _) (by omega)); rw [hR0, ints_len] at h; exact h
  obtain ⟨n0, hn0⟩ : ∃ n, R0.length = n := ⟨_, rfl⟩
  rw [hn0] at hN0
  have HN0 := Lib.hid (show (ints R0).length = n0 by rw [ints_len]; exact hn0)
  have HR0 := Lib.hid hR0
  clear hR0 hn0
  obtain ⟨RS0, hRS0⟩ : ∃ b : Bool, fS s0 z0 z1 = b := ⟨_, rfl⟩
  have HS0 := Lib.hid hRS0
  clear hRS0
  obtain ⟨R1, hR1⟩ : ∃ R : List Int, nats (fR s0 z0 z1) = ints R := ⟨_, rfl⟩
  have hN1 : R1.length ≤ 1048576 := by have h : (nats (fR s0 z0 z1)).length ≤ 1048576 := (by rw [nats_len]; exact Nat.le_trans (fR_len _ _ _) (by omega)); rw [hR1, ints_len] at h; exact h
  obtain ⟨n1, hn1⟩ : ∃ n, R1.length = n := ⟨_, rfl⟩
  rw [hn1] at hN1
  have HN1 := Lib.hid (show (ints R1).length = n1 by rw [ints_len]; exact hn1)
  have HR1 := Lib.hid hR1
  clear hR1 hn1
  have HB_0 := Lib.hid ((Below.refl W.heap.size W).alloc (Nat.le_refl _) (.cells #[.bool s0, .slice a0 len0 cap0] 24))
  have K_a0_0 := Lib.hid (Held.new_at W (W.heap.size) (.bool s0) (.slice a0 len0 cap0) 24 (by first | rfl | simp))
  go_enter Try.func11, Try.ntmps11
  go_wp2_with fail
  refine (szBigInt_any s0 a0 len0 cap0 1048576 _ (by omega) (by omega) (by omega)).mono ?_
  rintro e w1 ⟨rfl, hb⟩
  have K_a0_1 := Lib.hid (K_a0_0.out.after hb)
  clear K_a0_0
  have HB_1 := Lib.hid (HB_0.out.trans (hb.mono HB_0.out.size))
  clear hb HB_0
  by_cases hs0 : (1048576 : Int) < len0
  · rw [szOf_neg hs0]
    go_wp2
    go_ret
    exact ⟨rfl, HB_1.out⟩
  rw [szOf_pos hs0]
  obtain ⟨left0, hq0⟩ : ∃ q : Int, 1048576 - (len0 : Int) = q := ⟨_, rfl⟩
  have hl00 : 0 ≤ left0 ∧ left0 ≤ 1048576 ∧ len0 ≤ 1048576 := by omega
  rw [hq0]
  clear hq0 hs0
  have hk_a0_c0_1 := K_a0_1.out.c0
  have hk_a0_c1_1 := K_a0_1.out.c1
  go_wp2_with fail
  refine (toBigInt_any s0 a0 len0 cap0 z0 _ (HA0.out.below HB_1.out (Nat.le_refl _)) (by omega)).mono ?_
  rintro e w2 ⟨v_t0, rfl, ho_t0, hb⟩
  obtain ⟨A_t0, c_t0, hv⟩ := ho_t0.shape
  rw [HZ0.out] at hv
  subst hv
  have H_t0_0 := Lib.hid (ho_t0.based HB_1.out.size)
  clear ho_t0
  have K_a0_2 := Lib.hid (K_a0_1.out.after hb)
  clear K_a0_1
  have HB_2 := Lib.hid (HB_1.out.trans (hb.mono HB_1.out.size))
  clear hb HB_1
  go_wp2_with fail
  refine (toIntS_any a1 len1 cap1 z1 _ (HA1.out.below HB_2.out (Nat.le_refl _)) (by omega)).mono ?_
  rintro e w3 ⟨v_t1, rfl, ho_t1, hb⟩
  obtain ⟨A_t1, c_t1, hv⟩ := ho_t1.shape
  rw [HZ1.out] at hv
  subst hv
  have H_t1_0 := Lib.hid (ho_t1.based HB_2.out.size)
  clear ho_t1
  have K_a0_3 := Lib.hid (K_a0_2.out.after hb)
  clear K_a0_2
  have H_t0_3 := Lib.hid (OwnV.below (w := w2) H_t0_0.out hb)
  clear H_t0_0
  have HB_3 := Lib.hid (HB_2.out.trans (hb.mono HB_2.out.size))
  clear hb HB_2
  clear hk_a0_c0_1
  clear hk_a0_c1_1
  go_wp2_with fail
  refine (bigIntFloorDiv_spec s0 A_t0 A_t1 len0 c_t0 len1 c_t1 z0 z1 _ H_t0_3.out.row H_t1_0.out.row (by unfold maxLen; omega) (by unfold maxLen; omega)).mono ?_
  rintro e w4 ⟨v_w0, v_w1, rfl, ho_w0, ho_w1, ap0, ap1, hb⟩
  rw [HS0.out]
  rw [HR0.out] at ho_w0
  obtain ⟨A_w0, c_w0, hv⟩ := ho_w0.shape
  rw [HN0.out] at hv
  subst hv
  rw [HR1.out] at ho_w1
  obtain ⟨A_w1, c_w1, hv⟩ := ho_w1.shape
  rw [HN1.out] at hv
  subst hv
  have AP_w0_w1 := Lib.hid ap0
  have AP_w1_w0 := Lib.hid ap1
  clear ap0 ap1
  have AP_t0_w0 := Lib.hid (OwnV.apart H_t0_3.out ho_w0 (Nat.le_refl _))
  have AP_w0_t0 := Lib.hid (OwnV.apart' ho_w0 H_t0_3.out (Nat.le_refl _))
  have AP_t1_w0 := Lib.hid (OwnV.apart H_t1_0.out ho_w0 (Nat.le_refl _))
  have AP_w0_t1 := Lib.hid (OwnV.apart' ho_w0 H_t1_0.out (Nat.le_refl _))
  have H_w0_0 := Lib.hid (ho_w0.based HB_3.out.size)
  clear ho_w0
  have AP_t0_w1 := Lib.hid (OwnV.apart H_t0_3.out ho_w1 (Nat.le_refl _))
  have AP_w1_t0 := Lib.hid (OwnV.apart' ho_w1 H_t0_3.out (Nat.le_refl _))
  have AP_t1_w1 := Lib.hid (OwnV.apart H_t1_0.out ho_w1 (Nat.le_refl _))
  have AP_w1_t1 := Lib.hid (OwnV.apart' ho_w1 H_t1_0.out (Nat.le_refl _))
  have H_w1_0 := Lib.hid (ho_w1.based HB_3.out.size)
  clear ho_w1
  have K_a0_4 := Lib.hid (K_a0_3.out.after hb)
  clear K_a0_3
  have H_t0_4 := Lib.hid (OwnV.below (w := w3) H_t0_3.out hb)
  clear H_t0_3
  have H_t1_4 := Lib.hid (OwnV.below (w := w3) H_t1_0.out hb)
  clear H_t1_0
  have HB_4 := Lib.hid (HB_3.out.trans (hb.mono HB_3.out.size))
  clear hb HB_3
  have K_a0_5 := Lib.hid (K_a0_4.out.alloc (.cells #[.bool RS0, .slice A_w0 n0 c_w0] 27))
  clear K_a0_4
  have K_w0_5 := Lib.hid (Held.new w4 (.bool RS0) (.slice A_w0 n0 c_w0) 27)
  have H_t0_5 := Lib.hid (OwnV.below H_t0_4.out ((Below.refl _ w4).alloc (Nat.le_refl _) (.cells #[.bool RS0, .slice A_w0 n0 c_w0] 27)))
  clear H_t0_4
  have H_t1_5 := Lib.hid (OwnV.below H_t1_4.out ((Below.refl _ w4).alloc (Nat.le_refl _) (.cells #[.bool RS0, .slice A_w0 n0 c_w0] 27)))
  clear H_t1_4
  have H_w0_5 := Lib.hid (OwnV.below H_w0_0.out ((Below.refl _ w4).alloc (Nat.le_refl _) (.cells #[.bool RS0, .slice A_w0 n0 c_w0] 27)))
  clear H_w0_0
  have H_w1_5 := Lib.hid (OwnV.below H_w1_0.out ((Below.refl _ w4).alloc (Nat.le_refl _) (.cells #[.bool RS0, .slice A_w0 n0 c_w0] 27)))
  clear H_w1_0
  have HB_5 := Lib.hid (HB_4.out.alloc HB_4.out.size (.cells #[.bool RS0, .slice A_w0 n0 c_w0] 27))
  clear HB_4
  clear H_t0_5
  clear H_t1_5
  have hk_a0_c0_5 := K_a0_5.out.c0
  have hk_a0_c1_5 := K_a0_5.out.c1
  go_wp2_with fail
  refine (toBigInt_any s0 a0 len0 cap0 z0 _ (HA0.out.below HB_5.out (Nat.le_refl _)) (by omega)).mono ?_
  rintro e w5 ⟨v_x0, rfl, ho_x0, hb⟩
  obtain ⟨A_x0, c_x0, hv⟩ := ho_x0.shape
  rw [HZ0.out] at hv
  subst hv
  have AP_w0_x0 := Lib.hid (OwnV.apart H_w0_5.out ho_x0 (Nat.le_refl _))
  have AP_x0_w0 := Lib.hid (OwnV.apart' ho_x0 H_w0_5.out (Nat.le_refl _))
  have AP_w1_x0 := Lib.hid (OwnV.apart H_w1_5.out ho_x0 (Nat.le_refl _))
  have AP_x0_w1 := Lib.hid (OwnV.apart' ho_x0 H_w1_5.out (Nat.le_refl _))
  have BN_a0_x0 := Lib.hid (OwnV.bn ho_x0 K_a0_5.out.lt)
  have BN_w0_x0 := Lib.hid (OwnV.bn ho_x0 K_w0_5.out.lt)
  have H_x0_0 := Lib.hid (ho_x0.based HB_5.out.size)
  clear ho_x0
  have K_a0_6 := Lib.hid (K_a0_5.out.after hb)
  clear K_a0_5
  have K_w0_6 := Lib.hid (K_w0_5.out.after hb)
  clear K_w0_5
  have H_w0_6 := Lib.hid (OwnV.below (w := (w4.alloc (.cells #[.bool RS0, .slice A_w0 n0 c_w0] 27))) H_w0_5.out hb)
  clear H_w0_5
  have H_w1_6 := Lib.hid (OwnV.below (w := (w4.alloc (.cells #[.bool RS0, .slice A_w0 n0 c_w0] 27))) H_w1_5.out hb)
  clear H_w1_5
  have HB_6 := Lib.hid (HB_5.out.trans (hb.mono HB_5.out.size))
  clear hb HB_5
  clear hk_a0_c0_5
  clear hk_a0_c1_5
  have K_a0_7 := Lib.hid (K_a0_6.out.alloc (.cells #[.bool s0, .slice A_x0 len0 c_x0] 27))
  clear K_a0_6
  have K_w0_7 := Lib.hid (K_w0_6.out.alloc (.cells #[.bool s0, .slice A_x0 len0 c_x0] 27))
  clear K_w0_6
  have K_x0_7 := Lib.hid (Held.new w5 (.bool s0) (.slice A_x0 len0 c_x0) 27)
  have H_w0_7 := Lib.hid (OwnV.below H_w0_6.out ((Below.refl _ w5).alloc (Nat.le_refl _) (.cells #[.bool s0, .slice A_x0 len0 c_x0] 27)))
  clear H_w0_6
  have H_w1_7 := Lib.hid (OwnV.below H_w1_6.out ((Below.refl _ w5).alloc (Nat.le_refl _) (.cells #[.bool s0, .slice A_x0 len0 c_x0] 27)))
  clear H_w1_6
  have BN_x0_x0 := Lib.hid (OwnV.bn_new H_x0_0.out)
  have H_x0_7 := Lib.hid (OwnV.below H_x0_0.out ((Below.refl _ w5).alloc (Nat.le_refl _) (.cells #[.bool s0, .slice A_x0 len0 c_x0] 27)))
  clear H_x0_0
  have HB_7 := Lib.hid (HB_6.out.alloc HB_6.out.size (.cells #[.bool s0, .slice A_x0 len0 c_x0] 27))
  clear HB_6
  go_wp2_with fail
  refine (toIntS_any a1 len1 cap1 z1 _ (HA1.out.below HB_7.out (Nat.le_refl _)) (by omega)).mono ?_
  rintro e w6 ⟨v_x1, rfl, ho_x1, hb⟩
  obtain ⟨A_x1, c_x1, hv⟩ := ho_x1.shape
  rw [HZ1.out] at hv
  subst hv
  have AP_w0_x1 := Lib.hid (OwnV.apart H_w0_7.out ho_x1 (Nat.le_refl _))
  have AP_x1_w0 := Lib.hid (OwnV.apart' ho_x1 H_w0_7.out (Nat.le_refl _))
  have AP_w1_x1 := Lib.hid (OwnV.apart H_w1_7.out ho_x1 (Nat.le_refl _))
  have AP_x1_w1 := Lib.hid (OwnV.apart' ho_x1 H_w1_7.out (Nat.le_refl _))
  have AP_x0_x1 := Lib.hid (OwnV.apart H_x0_7.out ho_x1 (Nat.le_refl _))
  have AP_x1_x0 := Lib.hid (OwnV.apart' ho_x1 H_x0_7.out (Nat.le_refl _))
  have BN_a0_x1 := Lib.hid (OwnV.bn ho_x1 K_a0_7.out.lt)
  have BN_w0_x1 := Lib.hid (OwnV.bn ho_x1 K_w0_7.out.lt)
  have BN_x0_x1 := Lib.hid (OwnV.bn ho_x1 K_x0_7.out.lt)
  have H_x1_0 := Lib.hid (ho_x1.based HB_7.out.size)
  clear ho_x1
  have K_a0_8 := Lib.hid (K_a0_7.out.after hb)
  clear K_a0_7
  have K_w0_8 := Lib.hid (K_w0_7.out.after hb)
  clear K_w0_7
  have K_x0_8 := Lib.hid (K_x0_7.out.after hb)
  clear K_x0_7
  have H_w0_8 := Lib.hid (OwnV.below (w := (w5.alloc (.cells #[.bool s0, .slice A_x0 len0 c_x0] 27))) H_w0_7.out hb)
  clear H_w0_7
  have H_w1_8 := Lib.hid (OwnV.below (w := (w5.alloc (.cells #[.bool s0, .slice A_x0 len0 c_x0] 27))) H_w1_7.out hb)
  clear H_w1_7
  have H_x0_8 := Lib.hid (OwnV.below (w := (w5.alloc (.cells #[.bool s0, .slice A_x0 len0 c_x0] 27))) H_x0_7.out hb)
  clear H_x0_7
  have HB_8 := Lib.hid (HB_7.out.trans (hb.mono HB_7.out.size))
  clear hb HB_7
  have hk_x0_c0_8 := K_x0_8.out.c0
  have hk_x0_c1_8 := K_x0_8.out.c1
  go_wp2_with fail
  refine (bigIntFloorDiv_impl s0 A_x0 A_x1 len0 c_x0 len1 c_x1 z0 z1 _ H_x0_8.out.row H_x1_0.out.row (by unfold maxLen; omega) (by unfold maxLen; omega)).mono ?_
  rintro e w7 ⟨v_g0, v_g1, rfl, ho_g0, ho_g1, ap0, ap1, hb⟩
  rw [HS0.out]
  rw [HR0.out] at ho_g0
  obtain ⟨A_g0, c_g0, hv⟩ := ho_g0.shape
  rw [HN0.out] at hv
  subst hv
  rw [HR1.out] at ho_g1
  obtain ⟨A_g1, c_g1, hv⟩ := ho_g1.shape
  rw [HN1.out] at hv
  subst hv
  have AP_g0_g1 := Lib.hid ap0
  have AP_g1_g0 := Lib.hid ap1
  clear ap0 ap1
  have AP_w0_g0 := Lib.hid (OwnV.apart H_w0_8.out ho_g0 (Nat.le_refl _))
  have AP_g0_w0 := Lib.hid (OwnV.apart' ho_g0 H_w0_8.out (Nat.le_refl _))
  have AP_w1_g0 := Lib.hid (OwnV.apart H_w1_8.out ho_g0 (Nat.le_refl _))
  have AP_g0_w1 := Lib.hid (OwnV.apart' ho_g0 H_w1_8.out (Nat.le_refl _))
  have AP_x0_g0 := Lib.hid (OwnV.apart H_x0_8.out ho_g0 (Nat.le_refl _))
  have AP_g0_x0 := Lib.hid (OwnV.apart' ho_g0 H_x0_8.out (Nat.le_refl _))
  have AP_x1_g0 := Lib.hid (OwnV.apart H_x1_0.out ho_g0 (Nat.le_refl _))
  have AP_g0_x1 := Lib.hid (OwnV.apart' ho_g0 H_x1_0.out (Nat.le_refl _))
  have BN_a0_g0 := Lib.hid (OwnV.bn ho_g0 K_a0_8.out.lt)
  have BN_w0_g0 := Lib.hid (OwnV.bn ho_g0 K_w0_8.out.lt)
  have BN_x0_g0 := Lib.hid (OwnV.bn ho_g0 K_x0_8.out.lt)
  have H_g0_0 := Lib.hid (ho_g0.based HB_8.out.size)
  clear ho_g0
  have AP_w0_g1 := Lib.hid (OwnV.apart H_w0_8.out ho_g1 (Nat.le_refl _))
  have AP_g1_w0 := Lib.hid (OwnV.apart' ho_g1 H_w0_8.out (Nat.le_refl _))
  have AP_w1_g1 := Lib.hid (OwnV.apart H_w1_8.out ho_g1 (Nat.le_refl _))
  have AP_g1_w1 := Lib.hid (OwnV.apart' ho_g1 H_w1_8.out (Nat.le_refl _))
  have AP_x0_g1 := Lib.hid (OwnV.apart H_x0_8.out ho_g1 (Nat.le_refl _))
  have AP_g1_x0 := Lib.hid (OwnV.apart' ho_g1 H_x0_8.out (Nat.le_refl _))
  have AP_x1_g1 := Lib.hid (OwnV.apart H_x1_0.out ho_g1 (Nat.le_refl _))
  have AP_g1_x1 := Lib.hid (OwnV.apart' ho_g1 H_x1_0.out (Nat.le_refl _))
  have BN_a0_g1 := Lib.hid (OwnV.bn ho_g1 K_a0_8.out.lt)
  have BN_w0_g1 := Lib.hid (OwnV.bn ho_g1 K_w0_8.out.lt)
  have BN_x0_g1 := Lib.hid (OwnV.bn ho_g1 K_x0_8.out.lt)
  have H_g1_0 := Lib.hid (ho_g1.based HB_8.out.size)
  clear ho_g1
  have K_a0_9 := Lib.hid (K_a0_8.out.after hb)
  clear K_a0_8
  have K_w0_9 := Lib.hid (K_w0_8.out.after hb)
  clear K_w0_8
  have K_x0_9 := Lib.hid (K_x0_8.out.after hb)
  clear K_x0_8
  have H_w0_9 := Lib.hid (OwnV.below (w := w6) H_w0_8.out hb)
  clear H_w0_8
  have H_w1_9 := Lib.hid (OwnV.below (w := w6) H_w1_8.out hb)
  clear H_w1_8
  have H_x0_9 := Lib.hid (OwnV.below (w := w6) H_x0_8.out hb)
  clear H_x0_8
  have H_x1_9 := Lib.hid (OwnV.below (w := w6) H_x1_0.out hb)
  clear H_x1_0
  have HB_9 := Lib.hid (HB_8.out.trans (hb.mono HB_8.out.size))
  clear hb HB_8
  have K_a0_10 := Lib.hid (K_a0_9.out.alloc (.cells #[.bool RS0, .slice A_g0 n0 c_g0] 27))
  clear K_a0_9
  have K_w0_10 := Lib.hid (K_w0_9.out.alloc (.cells #[.bool RS0, .slice A_g0 n0 c_g0] 27))
  clear K_w0_9
  have K_x0_10 := Lib.hid (K_x0_9.out.alloc (.cells #[.bool RS0, .slice A_g0 n0 c_g0] 27))
  clear K_x0_9
  have K_g0_10 := Lib.hid (Held.new w7 (.bool RS0) (.slice A_g0 n0 c_g0) 27)
  have H_w0_10 := Lib.hid (OwnV.below H_w0_9.out ((Below.refl _ w7).alloc (Nat.le_refl _) (.cells #[.bool RS0, .slice A_g0 n0 c_g0] 27)))
  clear H_w0_9
  have H_w1_10 := Lib.hid (OwnV.below H_w1_9.out ((Below.refl _ w7).alloc (Nat.le_refl _) (.cells #[.bool RS0, .slice A_g0 n0 c_g0] 27)))
  clear H_w1_9
  have BN_g0_x0 := Lib.hid (OwnV.bn_new H_x0_9.out)
  have H_x0_10 := Lib.hid (OwnV.below H_x0_9.out ((Below.refl _ w7).alloc (Nat.le_refl _) (.cells #[.bool RS0, .slice A_g0 n0 c_g0] 27)))
  clear H_x0_9
  have BN_g0_x1 := Lib.hid (OwnV.bn_new H_x1_9.out)
  have H_x1_10 := Lib.hid (OwnV.below H_x1_9.out ((Below.refl _ w7).alloc (Nat.le_refl _) (.cells #[.bool RS0, .slice A_g0 n0 c_g0] 27)))
  clear H_x1_9
  have BN_g0_g0 := Lib.hid (OwnV.bn_new H_g0_0.out)
  have H_g0_10 := Lib.hid (OwnV.below H_g0_0.out ((Below.refl _ w7).alloc (Nat.le_refl _) (.cells #[.bool RS0, .slice A_g0 n0 c_g0] 27)))
  clear H_g0_0
  have BN_g0_g1 := Lib.hid (OwnV.bn_new H_g1_0.out)
  have H_g1_10 := Lib.hid (OwnV.below H_g1_0.out ((Below.refl _ w7).alloc (Nat.le_refl _) (.cells #[.bool RS0, .slice A_g0 n0 c_g0] 27)))
  clear H_g1_0
  have HB_10 := Lib.hid (HB_9.out.alloc HB_9.out.size (.cells #[.bool RS0, .slice A_g0 n0 c_g0] 27))
  clear HB_9
  clear hk_x0_c0_8
  clear hk_x0_c1_8
  have hk_g0_c0_10 := K_g0_10.out.c0
  have hk_g0_c1_10 := K_g0_10.out.c1
  have hk_w0_c0_10 := K_w0_10.out.c0
  have hk_w0_c1_10 := K_w0_10.out.c1
  go_wp2_with fail
  refine (eqBigInt_same RS0 A_g0 A_w0 n0 c_g0 c_w0 R0 _ H_g0_10.out.row H_w0_10.out.row (by unfold maxLen; omega)).mono ?_
  rintro e w8 ⟨rfl, hb⟩
  have K_a0_11 := Lib.hid (K_a0_10.out.after hb)
  clear K_a0_10
  have K_w0_11 := Lib.hid (K_w0_10.out.after hb)
  clear K_w0_10
  have K_x0_11 := Lib.hid (K_x0_10.out.after hb)
  clear K_x0_10
  have K_g0_11 := Lib.hid (K_g0_10.out.after hb)
  clear K_g0_10
  have H_w0_11 := Lib.hid (OwnV.below (w := (w7.alloc (.cells #[.bool RS0, .slice A_g0 n0 c_g0] 27))) H_w0_10.out hb)
  clear H_w0_10
  have H_w1_11 := Lib.hid (OwnV.below (w := (w7.alloc (.cells #[.bool RS0, .slice A_g0 n0 c_g0] 27))) H_w1_10.out hb)
  clear H_w1_10
  have H_x0_11 := Lib.hid (OwnV.below (w := (w7.alloc (.cells #[.bool RS0, .slice A_g0 n0 c_g0] 27))) H_x0_10.out hb)
  clear H_x0_10
  have H_x1_11 := Lib.hid (OwnV.below (w := (w7.alloc (.cells #[.bool RS0, .slice A_g0 n0 c_g0] 27))) H_x1_10.out hb)
  clear H_x1_10
  have H_g0_11 := Lib.hid (OwnV.below (w := (w7.alloc (.cells #[.bool RS0, .slice A_g0 n0 c_g0] 27))) H_g0_10.out hb)
  clear H_g0_10
  have H_g1_11 := Lib.hid (OwnV.below (w := (w7.alloc (.cells #[.bool RS0, .slice A_g0 n0 c_g0] 27))) H_g1_10.out hb)
  clear H_g1_10
  have HB_11 := Lib.hid (HB_10.out.trans (hb.mono HB_10.out.size))
  clear hb HB_10
  go_wp2_with fail
  refine (eqIntS_same A_g1 A_w1 n1 c_g1 c_w1 R1 _ H_g1_11.out.row H_w1_11.out.row (by unfold maxLen; omega)).mono ?_
  rintro e w9 ⟨rfl, hb⟩
  have K_a0_12 := Lib.hid (K_a0_11.out.after hb)
  clear K_a0_11
  have K_w0_12 := Lib.hid (K_w0_11.out.after hb)
  clear K_w0_11
  have K_x0_12 := Lib.hid (K_x0_11.out.after hb)
  clear K_x0_11
  have K_g0_12 := Lib.hid (K_g0_11.out.after hb)
  clear K_g0_11
  have H_w0_12 := Lib.hid (OwnV.below (w := w8) H_w0_11.out hb)
  clear H_w0_11
  have H_w1_12 := Lib.hid (OwnV.below (w := w8) H_w1_11.out hb)
  clear H_w1_11
  have H_x0_12 := Lib.hid (OwnV.below (w := w8) H_x0_11.out hb)
  clear H_x0_11
  have H_x1_12 := Lib.hid (OwnV.below (w := w8) H_x1_11.out hb)
  clear H_x1_11
  have H_g0_12 := Lib.hid (OwnV.below (w := w8) H_g0_11.out hb)
  clear H_g0_11
  have H_g1_12 := Lib.hid (OwnV.below (w := w8) H_g1_11.out hb)
  clear H_g1_11
  have HB_12 := Lib.hid (HB_11.out.trans (hb.mono HB_11.out.size))
  clear hb HB_11
  clear hk_g0_c0_10
  clear hk_g0_c1_10
  clear hk_w0_c0_10
  clear hk_w0_c1_10
  have hk_x0_c0_12 := K_x0_12.out.c0
  have hk_x0_c1_12 := K_x0_12.out.c1
  have hk_a0_c0_12 := K_a0_12.out.c0
  have hk_a0_c1_12 := K_a0_12.out.c1
  go_wp2
  go_region_held3 (fun w' => w'.cell? ⟨w5.heap.size, 0, none⟩ = some (.bool s0) ∧ w'.cell? ⟨w5.heap.size, 1, none⟩ = some (.slice A_x0 len0 c_x0) ∧ w'.cell? ⟨W.heap.size, 0, none⟩ = some (.bool s0) ∧ w'.cell? ⟨W.heap.size, 1, none⟩ = some (.slice a0 len0 cap0)) (go_keep)
    (first
      | (go_at_call 14
         refine (toBigInt_any s0 a0 len0 cap0 z0 _ (HA0.out.below HB_12.out.drew (Nat.le_refl _)) (by omega)).mono ?_
         rintro e w10 ⟨v_tt0, rfl, ho_tt0, hb⟩
         obtain ⟨A_tt0, c_tt0, hv⟩ := ho_tt0.shape
         rw [HZ0.out] at hv
         subst hv
         have H_tt0_0 := Lib.hid (ho_tt0.based HB_12.out.drew.size)
         clear ho_tt0
         have K_a0_13 := Lib.hid (K_a0_12.out.drew.after hb)
         clear K_a0_12
         have K_w0_13 := Lib.hid (K_w0_12.out.drew.after hb)
         clear K_w0_12
         have K_x0_13 := Lib.hid (K_x0_12.out.drew.after hb)
         clear K_x0_12
         have K_g0_13 := Lib.hid (K_g0_12.out.drew.after hb)
         clear K_g0_12
         have H_w0_13 := Lib.hid (OwnV.below (w := w9.drew) H_w0_12.out hb)
         clear H_w0_12
         have H_w1_13 := Lib.hid (OwnV.below (w := w9.drew) H_w1_12.out hb)
         clear H_w1_12
         have H_x0_13 := Lib.hid (OwnV.below (w := w9.drew) H_x0_12.out hb)
         clear H_x0_12
         have H_x1_13 := Lib.hid (OwnV.below (w := w9.drew) H_x1_12.out hb)
         clear H_x1_12
         have H_g0_13 := Lib.hid (OwnV.below (w := w9.drew) H_g0_12.out hb)
         clear H_g0_12
         have H_g1_13 := Lib.hid (OwnV.below (w := w9.drew) H_g1_12.out hb)
         clear H_g1_12
         have HB_13 := Lib.hid (HB_12.out.drew.trans (hb.mono HB_12.out.drew.size))
         clear hb HB_12
         have hk_x0_c0_13 := K_x0_13.out.c0
         have hk_x0_c1_13 := K_x0_13.out.c1
         have hk_a0_c0_13 := K_a0_13.out.c0
         have hk_a0_c1_13 := K_a0_13.out.c1)
      | (go_at_call 16
         refine (eqBigInt_same s0 A_x0 A_tt0 len0 c_x0 c_tt0 z0 _ H_x0_13.out.row H_tt0_0.out.row (by unfold maxLen; omega)).mono ?_
         rintro e w11 ⟨rfl, hb⟩
         have K_a0_14 := Lib.hid (K_a0_13.out.after hb)
         clear K_a0_13
         have K_w0_14 := Lib.hid (K_w0_13.out.after hb)
         clear K_w0_13
         have K_x0_14 := Lib.hid (K_x0_13.out.after hb)
         clear K_x0_13
         have K_g0_14 := Lib.hid (K_g0_13.out.after hb)
         clear K_g0_13
         have H_w0_14 := Lib.hid (OwnV.below (w := w10) H_w0_13.out hb)
         clear H_w0_13
         have H_w1_14 := Lib.hid (OwnV.below (w := w10) H_w1_13.out hb)
         clear H_w1_13
         have H_x0_14 := Lib.hid (OwnV.below (w := w10) H_x0_13.out hb)
         clear H_x0_13
         have H_x1_14 := Lib.hid (OwnV.below (w := w10) H_x1_13.out hb)
         clear H_x1_13
         have H_g0_14 := Lib.hid (OwnV.below (w := w10) H_g0_13.out hb)
         clear H_g0_13
         have H_g1_14 := Lib.hid (OwnV.below (w := w10) H_g1_13.out hb)
         clear H_g1_13
         have H_tt0_14 := Lib.hid (OwnV.below (w := w10) H_tt0_0.out hb)
         clear H_tt0_0
         have HB_14 := Lib.hid (HB_13.out.trans (hb.mono HB_13.out.size))
         clear hb HB_13
         have hk_x0_c0_14 := K_x0_14.out.c0
         have hk_x0_c1_14 := K_x0_14.out.c1
         have hk_a0_c0_14 := K_a0_14.out.c0
         have hk_a0_c1_14 := K_a0_14.out.c1))
  clear H_tt0_14
  go_wp2_with fail
  refine (toIntS_any a1 len1 cap1 z1 _ (HA1.out.below HB_14.out (Nat.le_refl _)) (by omega)).mono ?_
  rintro e w12 ⟨v_tt1, rfl, ho_tt1, hb⟩
  obtain ⟨A_tt1, c_tt1, hv⟩ := ho_tt1.shape
  rw [HZ1.out] at hv
  subst hv
  have H_tt1_0 := Lib.hid (ho_tt1.based HB_14.out.size)
  clear ho_tt1
  have K_a0_15 := Lib.hid (K_a0_14.out.after hb)
  clear K_a0_14
  have K_w0_15 := Lib.hid (K_w0_14.out.after hb)
  clear K_w0_14
  have K_x0_15 := Lib.hid (K_x0_14.out.after hb)
  clear K_x0_14
  have K_g0_15 := Lib.hid (K_g0_14.out.after hb)
  clear K_g0_14
  have H_w0_15 := Lib.hid (OwnV.below (w := w11) H_w0_14.out hb)
  clear H_w0_14
  have H_w1_15 := Lib.hid (OwnV.below (w := w11) H_w1_14.out hb)
  clear H_w1_14
  have H_x0_15 := Lib.hid (OwnV.below (w := w11) H_x0_14.out hb)
  clear H_x0_14
  have H_x1_15 := Lib.hid (OwnV.below (w := w11) H_x1_14.out hb)
  clear H_x1_14
  have H_g0_15 := Lib.hid (OwnV.below (w := w11) H_g0_14.out hb)
  clear H_g0_14
  have H_g1_15 := Lib.hid (OwnV.below (w := w11) H_g1_14.out hb)
  clear H_g1_14
  have HB_15 := Lib.hid (HB_14.out.trans (hb.mono HB_14.out.size))
  clear hb HB_14
  go_wp2_with fail
  refine (eqIntS_same A_x1 A_tt1 len1 c_x1 c_tt1 z1 _ H_x1_15.out.row H_tt1_0.out.row (by unfold maxLen; omega)).mono ?_
  rintro e w13 ⟨rfl, hb⟩
  have K_a0_16 := Lib.hid (K_a0_15.out.after hb)
  clear K_a0_15
  have K_w0_16 := Lib.hid (K_w0_15.out.after hb)
  clear K_w0_15
  have K_x0_16 := Lib.hid (K_x0_15.out.after hb)
  clear K_x0_15
  have K_g0_16 := Lib.hid (K_g0_15.out.after hb)
  clear K_g0_15
  have H_w0_16 := Lib.hid (OwnV.below (w := w12) H_w0_15.out hb)
  clear H_w0_15
  have H_w1_16 := Lib.hid (OwnV.below (w := w12) H_w1_15.out hb)
  clear H_w1_15
  have H_x0_16 := Lib.hid (OwnV.below (w := w12) H_x0_15.out hb)
  clear H_x0_15
  have H_x1_16 := Lib.hid (OwnV.below (w := w12) H_x1_15.out hb)
  clear H_x1_15
  have H_g0_16 := Lib.hid (OwnV.below (w := w12) H_g0_15.out hb)
  clear H_g0_15
  have H_g1_16 := Lib.hid (OwnV.below (w := w12) H_g1_15.out hb)
  clear H_g1_15
  have H_tt1_16 := Lib.hid (OwnV.below (w := w12) H_tt1_0.out hb)
  clear H_tt1_0
  have HB_16 := Lib.hid (HB_15.out.trans (hb.mono HB_15.out.size))
  clear hb HB_15
  clear H_tt1_16
  have hk_x0_c0_16 := K_x0_16.out.c0
  have hk_x0_c1_16 := K_x0_16.out.c1
  go_wp2_with fail
  refine (markBigInt_at s0 A_x0 len0 c_x0 (1) W.heap.size _ (by first | rfl | omega) _ _ H_x0_16.out (by omega)).mono ?_
  rintro e w14 ⟨rfl, ho, hg⟩
  have K_a0_17 := Lib.hid (K_a0_16.out.grown hg BN_a0_x0.out)
  clear K_a0_16
  have K_w0_17 := Lib.hid (K_w0_16.out.grown hg BN_w0_x0.out)
  clear K_w0_16
  have K_x0_17 := Lib.hid (K_x0_16.out.grown hg BN_x0_x0.out)
  clear K_x0_16
  have K_g0_17 := Lib.hid (K_g0_16.out.grown hg BN_g0_x0.out)
  clear K_g0_16
  have HB_17 := Lib.hid (HB_16.out.grown hg HB_16.out.size (fun k hk => (H_x0_16.out.lt k hk).1))
  clear HB_16
  have H_w0_17 := Lib.hid (H_w0_16.out.kept hg AP_w0_x0.out)
  clear H_w0_16
  have H_w1_17 := Lib.hid (H_w1_16.out.kept hg AP_w1_x0.out)
  clear H_w1_16
  have H_x1_17 := Lib.hid (H_x1_16.out.kept hg AP_x1_x0.out)
  clear H_x1_16
  have H_g0_17 := Lib.hid (H_g0_16.out.kept hg AP_g0_x0.out)
  clear H_g0_16
  have H_g1_17 := Lib.hid (H_g1_16.out.kept hg AP_g1_x0.out)
  clear H_g1_16
  clear H_x0_16
  have H_x0_17 := Lib.hid ho
  clear ho hg
  clear hk_x0_c0_16
  clear hk_x0_c1_16
  go_wp2_with fail
  refine (markIntS_at A_x1 len1 c_x1 (1 + len0) W.heap.size _ (by first | rfl | omega) _ _ H_x1_17.out (by omega)).mono ?_
  rintro e w15 ⟨rfl, ho, hg⟩
  have K_a0_18 := Lib.hid (K_a0_17.out.grown hg BN_a0_x1.out)
  clear K_a0_17
  have K_w0_18 := Lib.hid (K_w0_17.out.grown hg BN_w0_x1.out)
  clear K_w0_17
  have K_x0_18 := Lib.hid (K_x0_17.out.grown hg BN_x0_x1.out)
  clear K_x0_17
  have K_g0_18 := Lib.hid (K_g0_17.out.grown hg BN_g0_x1.out)
  clear K_g0_17
  have HB_18 := Lib.hid (HB_17.out.grown hg HB_17.out.size (fun k hk => (H_x1_17.out.lt k hk).1))
  clear HB_17
  have H_w0_18 := Lib.hid (H_w0_17.out.kept hg AP_w0_x1.out)
  clear H_w0_17
  have H_w1_18 := Lib.hid (H_w1_17.out.kept hg AP_w1_x1.out)
  clear H_w1_17
  have H_x0_18 := Lib.hid (H_x0_17.out.kept hg AP_x0_x1.out)
  clear H_x0_17
  have H_g0_18 := Lib.hid (H_g0_17.out.kept hg AP_g0_x1.out)
  clear H_g0_17
  have H_g1_18 := Lib.hid (H_g1_17.out.kept hg AP_g1_x1.out)
  clear H_g1_17
  clear H_x1_17
  have H_x1_18 := Lib.hid ho
  clear ho hg
  clear H_x0_18
  clear K_x0_18
  clear H_x1_18
  have hk_g0_c0_18 := K_g0_18.out.c0
  have hk_g0_c1_18 := K_g0_18.out.c1
  have hk_w0_c0_18 := K_w0_18.out.c0
  have hk_w0_c1_18 := K_w0_18.out.c1
  go_wp2_with fail
  refine (eqBigInt_same RS0 A_g0 A_w0 n0 c_g0 c_w0 R0 _ H_g0_18.out.row H_w0_18.out.row (by unfold maxLen; omega)).mono ?_
  rintro e w16 ⟨rfl, hb⟩
  have K_a0_19 := Lib.hid (K_a0_18.out.after hb)
  clear K_a0_18
  have K_w0_19 := Lib.hid (K_w0_18.out.after hb)
  clear K_w0_18
  have K_g0_19 := Lib.hid (K_g0_18.out.after hb)
  clear K_g0_18
  have H_w0_19 := Lib.hid (OwnV.below (w := w15) H_w0_18.out hb)
  clear H_w0_18
  have H_w1_19 := Lib.hid (OwnV.below (w := w15) H_w1_18.out hb)
  clear H_w1_18
  have H_g0_19 := Lib.hid (OwnV.below (w := w15) H_g0_18.out hb)
  clear H_g0_18
  have H_g1_19 := Lib.hid (OwnV.below (w := w15) H_g1_18.out hb)
  clear H_g1_18
  have HB_19 := Lib.hid (HB_18.out.trans (hb.mono HB_18.out.size))
  clear hb HB_18
  go_wp2_with fail
  refine (eqIntS_same A_g1 A_w1 n1 c_g1 c_w1 R1 _ H_g1_19.out.row H_w1_19.out.row (by unfold maxLen; omega)).mono ?_
  rintro e w17 ⟨rfl, hb⟩
  have K_a0_20 := Lib.hid (K_a0_19.out.after hb)
  clear K_a0_19
  have K_w0_20 := Lib.hid (K_w0_19.out.after hb)
  clear K_w0_19
  have K_g0_20 := Lib.hid (K_g0_19.out.after hb)
  clear K_g0_19
  have H_w0_20 := Lib.hid (OwnV.below (w := w16) H_w0_19.out hb)
  clear H_w0_19
  have H_w1_20 := Lib.hid (OwnV.below (w := w16) H_w1_19.out hb)
  clear H_w1_19
  have H_g0_20 := Lib.hid (OwnV.below (w := w16) H_g0_19.out hb)
  clear H_g0_19
  have H_g1_20 := Lib.hid (OwnV.below (w := w16) H_g1_19.out hb)
  clear H_g1_19
  have HB_20 := Lib.hid (HB_19.out.trans (hb.mono HB_19.out.size))
  clear hb HB_19
  clear hk_g0_c0_18
  clear hk_g0_c1_18
  clear hk_w0_c0_18
  clear hk_w0_c1_18
  have hk_g0_c0_20 := K_g0_20.out.c0
  have hk_g0_c1_20 := K_g0_20.out.c1
  go_wp2_with fail
  refine (markBigInt_at RS0 A_g0 n0 c_g0 (1) W.heap.size _ (by first | rfl | omega) _ _ H_g0_20.out (by omega)).mono ?_
  rintro e w18 ⟨rfl, ho, hg⟩
  have K_a0_21 := Lib.hid (K_a0_20.out.grown hg BN_a0_g0.out)
  clear K_a0_20
  have K_w0_21 := Lib.hid (K_w0_20.out.grown hg BN_w0_g0.out)
  clear K_w0_20
  have K_g0_21 := Lib.hid (K_g0_20.out.grown hg BN_g0_g0.out)
  clear K_g0_20
  have HB_21 := Lib.hid (HB_20.out.grown hg HB_20.out.size (fun k hk => (H_g0_20.out.lt k hk).1))
  clear HB_20
  have H_w0_21 := Lib.hid (H_w0_20.out.kept hg AP_w0_g0.out)
  clear H_w0_20
  have H_w1_21 := Lib.hid (H_w1_20.out.kept hg AP_w1_g0.out)
  clear H_w1_20
  have H_g1_21 := Lib.hid (H_g1_20.out.kept hg AP_g1_g0.out)
  clear H_g1_20
  clear H_g0_20
  have H_g0_21 := Lib.hid ho
  clear ho hg
  clear hk_g0_c0_20
  clear hk_g0_c1_20
  go_wp2_with fail
  refine (markIntS_at A_g1 n1 c_g1 (1 + n0) W.heap.size _ (by first | rfl | omega) _ _ H_g1_21.out (by omega)).mono ?_
  rintro e w19 ⟨rfl, ho, hg⟩
  have K_a0_22 := Lib.hid (K_a0_21.out.grown hg BN_a0_g1.out)
  clear K_a0_21
  have K_w0_22 := Lib.hid (K_w0_21.out.grown hg BN_w0_g1.out)
  clear K_w0_21
  have K_g0_22 := Lib.hid (K_g0_21.out.grown hg BN_g0_g1.out)
  clear K_g0_21
  have HB_22 := Lib.hid (HB_21.out.grown hg HB_21.out.size (fun k hk => (H_g1_21.out.lt k hk).1))
  clear HB_21
  have H_w0_22 := Lib.hid (H_w0_21.out.kept hg AP_w0_g1.out)
  clear H_w0_21
  have H_w1_22 := Lib.hid (H_w1_21.out.kept hg AP_w1_g1.out)
  clear H_w1_21
  have H_g0_22 := Lib.hid (H_g0_21.out.kept hg AP_g0_g1.out)
  clear H_g0_21
  clear H_g1_21
  have H_g1_22 := Lib.hid ho
  clear ho hg
  have hk_g0_c0_22 := K_g0_22.out.c0
  have hk_g0_c1_22 := K_g0_22.out.c1
  go_wp2_with fail
  refine (heldBigInt_at RS0 A_g0 n0 c_g0 (1) _ (by first | rfl | omega) _ H_g0_22.out.row (by omega)).mono ?_
  rintro e w20 ⟨rfl, hb⟩
  have K_a0_23 := Lib.hid (K_a0_22.out.after hb)
  clear K_a0_22
  have K_w0_23 := Lib.hid (K_w0_22.out.after hb)
  clear K_w0_22
  have K_g0_23 := Lib.hid (K_g0_22.out.after hb)
  clear K_g0_22
  have H_w0_23 := Lib.hid (OwnV.below (w := w19) H_w0_22.out hb)
  clear H_w0_22
  have H_w1_23 := Lib.hid (OwnV.below (w := w19) H_w1_22.out hb)
  clear H_w1_22
  have H_g0_23 := Lib.hid (OwnV.below (w := w19) H_g0_22.out hb)
  clear H_g0_22
  have H_g1_23 := Lib.hid (OwnV.below (w := w19) H_g1_22.out hb)
  clear H_g1_22
  have HB_23 := Lib.hid (HB_22.out.trans (hb.mono HB_22.out.size))
  clear hb HB_22
  clear hk_g0_c0_22
  clear hk_g0_c1_22
  go_wp2_with fail
  refine (heldIntS_at A_g1 n1 c_g1 (1 + n0) _ (by first | rfl | omega) _ H_g1_23.out.row (by omega)).mono ?_
  rintro e w21 ⟨rfl, hb⟩
  have K_a0_24 := Lib.hid (K_a0_23.out.after hb)
  clear K_a0_23
  have K_w0_24 := Lib.hid (K_w0_23.out.after hb)
  clear K_w0_23
  have K_g0_24 := Lib.hid (K_g0_23.out.after hb)
  clear K_g0_23
  have H_w0_24 := Lib.hid (OwnV.below (w := w20) H_w0_23.out hb)
  clear H_w0_23
  have H_w1_24 := Lib.hid (OwnV.below (w := w20) H_w1_23.out hb)
  clear H_w1_23
  have H_g0_24 := Lib.hid (OwnV.below (w := w20) H_g0_23.out hb)
  clear H_g0_23
  have H_g1_24 := Lib.hid (OwnV.below (w := w20) H_g1_23.out hb)
  clear H_g1_23
  have HB_24 := Lib.hid (HB_23.out.trans (hb.mono HB_23.out.size))
  clear hb HB_23
  have hk_a0_c0_24 := K_a0_24.out.c0
  have hk_a0_c1_24 := K_a0_24.out.c1
  go_wp2_with fail
  refine (toBigInt_any s0 a0 len0 cap0 z0 _ (HA0.out.below HB_24.out (Nat.le_refl _)) (by omega)).mono ?_
  rintro e w22 ⟨v_ts0, rfl, ho_ts0, hb⟩
  obtain ⟨A_ts0, c_ts0, hv⟩ := ho_ts0.shape
  rw [HZ0.out] at hv
  subst hv
  have H_ts0_0 := Lib.hid (ho_ts0.based HB_24.out.size)
  clear ho_ts0
  have K_a0_25 := Lib.hid (K_a0_24.out.after hb)
  clear K_a0_24
  have K_w0_25 := Lib.hid (K_w0_24.out.after hb)
  clear K_w0_24
  have K_g0_25 := Lib.hid (K_g0_24.out.after hb)
  clear K_g0_24
  have H_w0_25 := Lib.hid (OwnV.below (w := w21) H_w0_24.out hb)
  clear H_w0_24
  have H_w1_25 := Lib.hid (OwnV.below (w := w21) H_w1_24.out hb)
  clear H_w1_24
  have H_g0_25 := Lib.hid (OwnV.below (w := w21) H_g0_24.out hb)
  clear H_g0_24
  have H_g1_25 := Lib.hid (OwnV.below (w := w21) H_g1_24.out hb)
  clear H_g1_24
  have HB_25 := Lib.hid (HB_24.out.trans (hb.mono HB_24.out.size))
  clear hb HB_24
  go_wp2_with fail
  refine (toIntS_any a1 len1 cap1 z1 _ (HA1.out.below HB_25.out (Nat.le_refl _)) (by omega)).mono ?_
  rintro e w23 ⟨v_ts1, rfl, ho_ts1, hb⟩
  obtain ⟨A_ts1, c_ts1, hv⟩ := ho_ts1.shape
  rw [HZ1.out] at hv
  subst hv
  have H_ts1_0 := Lib.hid (ho_ts1.based HB_25.out.size)
  clear ho_ts1
  have K_a0_26 := Lib.hid (K_a0_25.out.after hb)
  clear K_a0_25
  have K_w0_26 := Lib.hid (K_w0_25.out.after hb)
  clear K_w0_25
  have K_g0_26 := Lib.hid (K_g0_25.out.after hb)
  clear K_g0_25
  have H_w0_26 := Lib.hid (OwnV.below (w := w22) H_w0_25.out hb)
  clear H_w0_25
  have H_w1_26 := Lib.hid (OwnV.below (w := w22) H_w1_25.out hb)
  clear H_w1_25
  have H_g0_26 := Lib.hid (OwnV.below (w := w22) H_g0_25.out hb)
  clear H_g0_25
  have H_g1_26 := Lib.hid (OwnV.below (w := w22) H_g1_25.out hb)
  clear H_g1_25
  have H_ts0_26 := Lib.hid (OwnV.below (w := w22) H_ts0_0.out hb)
  clear H_ts0_0
  have HB_26 := Lib.hid (HB_25.out.trans (hb.mono HB_25.out.size))
  clear hb HB_25
  clear hk_a0_c0_24
  clear hk_a0_c1_24
  go_wp2_with fail
  refine (bigIntFloorDiv_impl s0 A_ts0 A_ts1 len0 c_ts0 len1 c_ts1 z0 z1 _ H_ts0_26.out.row H_ts1_0.out.row (by unfold maxLen; omega) (by unfold maxLen; omega)).mono ?_
  rintro e w24 ⟨v_h0, v_h1, rfl, ho_h0, ho_h1, ap0, ap1, hb⟩
  rw [HS0.out]
  rw [HR0.out] at ho_h0
  obtain ⟨A_h0, c_h0, hv⟩ := ho_h0.shape
  rw [HN0.out] at hv
  subst hv
  rw [HR1.out] at ho_h1
  obtain ⟨A_h1, c_h1, hv⟩ := ho_h1.shape
  rw [HN1.out] at hv
  subst hv
  have AP_h0_h1 := Lib.hid ap0
  have AP_h1_h0 := Lib.hid ap1
  clear ap0 ap1
  have AP_w0_h0 := Lib.hid (OwnV.apart H_w0_26.out ho_h0 (Nat.le_refl _))
  have AP_h0_w0 := Lib.hid (OwnV.apart' ho_h0 H_w0_26.out (Nat.le_refl _))
  have AP_w1_h0 := Lib.hid (OwnV.apart H_w1_26.out ho_h0 (Nat.le_refl _))
  have AP_h0_w1 := Lib.hid (OwnV.apart' ho_h0 H_w1_26.out (Nat.le_refl _))
  have AP_g0_h0 := Lib.hid (OwnV.apart H_g0_26.out ho_h0 (Nat.le_refl _))
  have AP_h0_g0 := Lib.hid (OwnV.apart' ho_h0 H_g0_26.out (Nat.le_refl _))
  have AP_g1_h0 := Lib.hid (OwnV.apart H_g1_26.out ho_h0 (Nat.le_refl _))
  have AP_h0_g1 := Lib.hid (OwnV.apart' ho_h0 H_g1_26.out (Nat.le_refl _))
  have AP_ts0_h0 := Lib.hid (OwnV.apart H_ts0_26.out ho_h0 (Nat.le_refl _))
  have AP_h0_ts0 := Lib.hid (OwnV.apart' ho_h0 H_ts0_26.out (Nat.le_refl _))
  have AP_ts1_h0 := Lib.hid (OwnV.apart H_ts1_0.out ho_h0 (Nat.le_refl _))
  have AP_h0_ts1 := Lib.hid (OwnV.apart' ho_h0 H_ts1_0.out (Nat.le_refl _))
  have H_h0_0 := Lib.hid (ho_h0.based HB_26.out.size)
  clear ho_h0
  have AP_w0_h1 := Lib.hid (OwnV.apart H_w0_26.out ho_h1 (Nat.le_refl _))
  have AP_h1_w0 := Lib.hid (OwnV.apart' ho_h1 H_w0_26.out (Nat.le_refl _))
  have AP_w1_h1 := Lib.hid (OwnV.apart H_w1_26.out ho_h1 (Nat.le_refl _))
  have AP_h1_w1 := Lib.hid (OwnV.apart' ho_h1 H_w1_26.out (Nat.le_refl _))
  have AP_g0_h1 := Lib.hid (OwnV.apart H_g0_26.out ho_h1 (Nat.le_refl _))
  have AP_h1_g0 := Lib.hid (OwnV.apart' ho_h1 H_g0_26.out (Nat.le_refl _))
  have AP_g1_h1 := Lib.hid (OwnV.apart H_g1_26.out ho_h1 (Nat.le_refl _))
  have AP_h1_g1 := Lib.hid (OwnV.apart' ho_h1 H_g1_26.out (Nat.le_refl _))
  have AP_ts0_h1 := Lib.hid (OwnV.apart H_ts0_26.out ho_h1 (Nat.le_refl _))
  have AP_h1_ts0 := Lib.hid (OwnV.apart' ho_h1 H_ts0_26.out (Nat.le_refl _))
  have AP_ts1_h1 := Lib.hid (OwnV.apart H_ts1_0.out ho_h1 (Nat.le_refl _))
  have AP_h1_ts1 := Lib.hid (OwnV.apart' ho_h1 H_ts1_0.out (Nat.le_refl _))
  have H_h1_0 := Lib.hid (ho_h1.based HB_26.out.size)
  clear ho_h1
  have K_a0_27 := Lib.hid (K_a0_26.out.after hb)
  clear K_a0_26
  have K_w0_27 := Lib.hid (K_w0_26.out.after hb)
  clear K_w0_26
  have K_g0_27 := Lib.hid (K_g0_26.out.after hb)
  clear K_g0_26
  have H_w0_27 := Lib.hid (OwnV.below (w := w23) H_w0_26.out hb)
  clear H_w0_26
  have H_w1_27 := Lib.hid (OwnV.below (w := w23) H_w1_26.out hb)
  clear H_w1_26
  have H_g0_27 := Lib.hid (OwnV.below (w := w23) H_g0_26.out hb)
  clear H_g0_26
  have H_g1_27 := Lib.hid (OwnV.below (w := w23) H_g1_26.out hb)
  clear H_g1_26
  have H_ts0_27 := Lib.hid (OwnV.below (w := w23) H_ts0_26.out hb)
  clear H_ts0_26
  have H_ts1_27 := Lib.hid (OwnV.below (w := w23) H_ts1_0.out hb)
  clear H_ts1_0
  have HB_27 := Lib.hid (HB_26.out.trans (hb.mono HB_26.out.size))
  clear hb HB_26
  have K_a0_28 := Lib.hid (K_a0_27.out.alloc (.cells #[.bool RS0, .slice A_h0 n0 c_h0] 27))
  clear K_a0_27
  have K_w0_28 := Lib.hid (K_w0_27.out.alloc (.cells #[.bool RS0, .slice A_h0 n0 c_h0] 27))
  clear K_w0_27
  have K_g0_28 := Lib.hid (K_g0_27.out.alloc (.cells #[.bool RS0, .slice A_h0 n0 c_h0] 27))
  clear K_g0_27
  have K_h0_28 := Lib.hid (Held.new w24 (.bool RS0) (.slice A_h0 n0 c_h0) 27)
  have H_w0_28 := Lib.hid (OwnV.below H_w0_27.out ((Below.refl _ w24).alloc (Nat.le_refl _) (.cells #[.bool RS0, .slice A_h0 n0 c_h0] 27)))
  clear H_w0_27
  have H_w1_28 := Lib.hid (OwnV.below H_w1_27.out ((Below.refl _ w24).alloc (Nat.le_refl _) (.cells #[.bool RS0, .slice A_h0 n0 c_h0] 27)))
  clear H_w1_27
  have BN_h0_g0 := Lib.hid (OwnV.bn_new H_g0_27.out)
  have H_g0_28 := Lib.hid (OwnV.below H_g0_27.out ((Below.refl _ w24).alloc (Nat.le_refl _) (.cells #[.bool RS0, .slice A_h0 n0 c_h0] 27)))
  clear H_g0_27
  have BN_h0_g1 := Lib.hid (OwnV.bn_new H_g1_27.out)
  have H_g1_28 := Lib.hid (OwnV.below H_g1_27.out ((Below.refl _ w24).alloc (Nat.le_refl _) (.cells #[.bool RS0, .slice A_h0 n0 c_h0] 27)))
  clear H_g1_27
  have H_ts0_28 := Lib.hid (OwnV.below H_ts0_27.out ((Below.refl _ w24).alloc (Nat.le_refl _) (.cells #[.bool RS0, .slice A_h0 n0 c_h0] 27)))
  clear H_ts0_27
  have H_ts1_28 := Lib.hid (OwnV.below H_ts1_27.out ((Below.refl _ w24).alloc (Nat.le_refl _) (.cells #[.bool RS0, .slice A_h0 n0 c_h0] 27)))
  clear H_ts1_27
  have H_h0_28 := Lib.hid (OwnV.below H_h0_0.out ((Below.refl _ w24).alloc (Nat.le_refl _) (.cells #[.bool RS0, .slice A_h0 n0 c_h0] 27)))
  clear H_h0_0
  have H_h1_28 := Lib.hid (OwnV.below H_h1_0.out ((Below.refl _ w24).alloc (Nat.le_refl _) (.cells #[.bool RS0, .slice A_h0 n0 c_h0] 27)))
  clear H_h1_0
  have HB_28 := Lib.hid (HB_27.out.alloc HB_27.out.size (.cells #[.bool RS0, .slice A_h0 n0 c_h0] 27))
  clear HB_27
  clear H_ts0_28
  clear H_ts1_28
  have hk_h0_c0_28 := K_h0_28.out.c0
  have hk_h0_c1_28 := K_h0_28.out.c1
  have hk_w0_c0_28 := K_w0_28.out.c0
  have hk_w0_c1_28 := K_w0_28.out.c1
  go_wp2_with fail
  refine (eqBigInt_same RS0 A_h0 A_w0 n0 c_h0 c_w0 R0 _ H_h0_28.out.row H_w0_28.out.row (by unfold maxLen; omega)).mono ?_
  rintro e w25 ⟨rfl, hb⟩
  have K_a0_29 := Lib.hid (K_a0_28.out.after hb)
  clear K_a0_28
  have K_w0_29 := Lib.hid (K_w0_28.out.after hb)
  clear K_w0_28
  have K_g0_29 := Lib.hid (K_g0_28.out.after hb)
  clear K_g0_28
  have K_h0_29 := Lib.hid (K_h0_28.out.after hb)
  clear K_h0_28
  have H_w0_29 := Lib.hid (OwnV.below (w := (w24.alloc (.cells #[.bool RS0, .slice A_h0 n0 c_h0] 27))) H_w0_28.out hb)
  clear H_w0_28
  have H_w1_29 := Lib.hid (OwnV.below (w := (w24.alloc (.cells #[.bool RS0, .slice A_h0 n0 c_h0] 27))) H_w1_28.out hb)
  clear H_w1_28
  have H_g0_29 := Lib.hid (OwnV.below (w := (w24.alloc (.cells #[.bool RS0, .slice A_h0 n0 c_h0] 27))) H_g0_28.out hb)
  clear H_g0_28
  have H_g1_29 := Lib.hid (OwnV.below (w := (w24.alloc (.cells #[.bool RS0, .slice A_h0 n0 c_h0] 27))) H_g1_28.out hb)
  clear H_g1_28
  have H_h0_29 := Lib.hid (OwnV.below (w := (w24.alloc (.cells #[.bool RS0, .slice A_h0 n0 c_h0] 27))) H_h0_28.out hb)
  clear H_h0_28
  have H_h1_29 := Lib.hid (OwnV.below (w := (w24.alloc (.cells #[.bool RS0, .slice A_h0 n0 c_h0] 27))) H_h1_28.out hb)
  clear H_h1_28
  have HB_29 := Lib.hid (HB_28.out.trans (hb.mono HB_28.out.size))
  clear hb HB_28
  go_wp2_with fail
  refine (eqIntS_same A_h1 A_w1 n1 c_h1 c_w1 R1 _ H_h1_29.out.row H_w1_29.out.row (by unfold maxLen; omega)).mono ?_
  rintro e w26 ⟨rfl, hb⟩
  have K_a0_30 := Lib.hid (K_a0_29.out.after hb)
  clear K_a0_29
  have K_w0_30 := Lib.hid (K_w0_29.out.after hb)
  clear K_w0_29
  have K_g0_30 := Lib.hid (K_g0_29.out.after hb)
  clear K_g0_29
  have K_h0_30 := Lib.hid (K_h0_29.out.after hb)
  clear K_h0_29
  have H_w0_30 := Lib.hid (OwnV.below (w := w25) H_w0_29.out hb)
  clear H_w0_29
  have H_w1_30 := Lib.hid (OwnV.below (w := w25) H_w1_29.out hb)
  clear H_w1_29
  have H_g0_30 := Lib.hid (OwnV.below (w := w25) H_g0_29.out hb)
  clear H_g0_29
  have H_g1_30 := Lib.hid (OwnV.below (w := w25) H_g1_29.out hb)
  clear H_g1_29
  have H_h0_30 := Lib.hid (OwnV.below (w := w25) H_h0_29.out hb)
  clear H_h0_29
  have H_h1_30 := Lib.hid (OwnV.below (w := w25) H_h1_29.out hb)
  clear H_h1_29
  have HB_30 := Lib.hid (HB_29.out.trans (hb.mono HB_29.out.size))
  clear hb HB_29
  clear hk_h0_c0_28
  clear hk_h0_c1_28
  clear hk_w0_c0_28
  clear hk_w0_c1_28
  have hk_g0_c0_30 := K_g0_30.out.c0
  have hk_g0_c1_30 := K_g0_30.out.c1
  go_wp2_with fail
  refine (heldBigInt_at RS0 A_g0 n0 c_g0 (1) _ (by first | rfl | omega) _ H_g0_30.out.row (by omega)).mono ?_
  rintro e w27 ⟨rfl, hb⟩
  have K_a0_31 := Lib.hid (K_a0_30.out.after hb)
  clear K_a0_30
  have K_w0_31 := Lib.hid (K_w0_30.out.after hb)
  clear K_w0_30
  have K_g0_31 := Lib.hid (K_g0_30.out.after hb)
  clear K_g0_30
  have K_h0_31 := Lib.hid (K_h0_30.out.after hb)
  clear K_h0_30
  have H_w0_31 := Lib.hid (OwnV.below (w := w26) H_w0_30.out hb)
  clear H_w0_30
  have H_w1_31 := Lib.hid (OwnV.below (w := w26) H_w1_30.out hb)
  clear H_w1_30
  have H_g0_31 := Lib.hid (OwnV.below (w := w26) H_g0_30.out hb)
  clear H_g0_30
  have H_g1_31 := Lib.hid (OwnV.below (w := w26) H_g1_30.out hb)
  clear H_g1_30
  have H_h0_31 := Lib.hid (OwnV.below (w := w26) H_h0_30.out hb)
  clear H_h0_30
  have H_h1_31 := Lib.hid (OwnV.below (w := w26) H_h1_30.out hb)
  clear H_h1_30
  have HB_31 := Lib.hid (HB_30.out.trans (hb.mono HB_30.out.size))
  clear hb HB_30
  clear hk_g0_c0_30
  clear hk_g0_c1_30
  go_wp2_with fail
  refine (heldIntS_at A_g1 n1 c_g1 (1 + n0) _ (by first | rfl | omega) _ H_g1_31.out.row (by omega)).mono ?_
  rintro e w28 ⟨rfl, hb⟩
  have K_a0_32 := Lib.hid (K_a0_31.out.after hb)
  clear K_a0_31
  have K_w0_32 := Lib.hid (K_w0_31.out.after hb)
  clear K_w0_31
  have K_g0_32 := Lib.hid (K_g0_31.out.after hb)
  clear K_g0_31
  have K_h0_32 := Lib.hid (K_h0_31.out.after hb)
  clear K_h0_31
  have H_w0_32 := Lib.hid (OwnV.below (w := w27) H_w0_31.out hb)
  clear H_w0_31
  have H_w1_32 := Lib.hid (OwnV.below (w := w27) H_w1_31.out hb)
  clear H_w1_31
  have H_g0_32 := Lib.hid (OwnV.below (w := w27) H_g0_31.out hb)
  clear H_g0_31
  have H_g1_32 := Lib.hid (OwnV.below (w := w27) H_g1_31.out hb)
  clear H_g1_31
  have H_h0_32 := Lib.hid (OwnV.below (w := w27) H_h0_31.out hb)
  clear H_h0_31
  have H_h1_32 := Lib.hid (OwnV.below (w := w27) H_h1_31.out hb)
  clear H_h1_31
  have HB_32 := Lib.hid (HB_31.out.trans (hb.mono HB_31.out.size))
  clear hb HB_31
  go_wp2
  go_ret
  exact ⟨rfl, HB_32.out⟩

set_option maxRecDepth 100000 in
theorem lifted (os : Os) (started : os.Started) (H : Type) (enc : TypeId × Value → H) :
    ReturnsInHanded {} Try.checked os 11 .any (Rows.fnExactBigIntFloorDivSpec.pre6 enc Try.prog Try.f11 Rows.fnExactBigIntFloorDivRow.domain false) (Rows.fnExactBigIntFloorDivSpec.post enc Try.prog Try.f11 false true false false) := by
  refine returnsInHanded_of_change (C := Try.checked) own started (by kernel_rfl) Try.func11
    (ChangeSpec.witness6 (enc := enc) (C := Try.checked) false ⟨#[], #[.agg #[.bool false, .slice none 0 0], .slice none 0 0], []⟩ 8 (by kernel_rfl) (by kernel_rfl) (by kernel_rfl) (by kernel_rfl)) ?_
  intro W base args ds gs before hval0 hW hcnd _
  have hval : ∀ (j : Nat) t v, Try.f11.params[j]? = some t → args[j]? = some v → Value.okWide Try.prog W .any base t v := hval0
  have hW' := hW
  obtain ⟨p, q, hA0, hV, rfl, hfz, hnd⟩ := hW
  have hA : DataW.TrodAll enc Try.prog W 0 (fun _ => true) true Try.f11.params.toList args.toList ds p := hA0
  rw [Try.params11] at hA hval
  obtain ⟨v0, vs0, d0, ds0, p0, q0, hargs, rfl, rfl, h0, r0⟩ := trodAll_cons hA
  obtain ⟨v1, vs1, d1, ds1, p1, q1, rfl, rfl, rfl, h1, r1⟩ := trodAll_cons r0
  obtain ⟨rfl, rfl, rfl⟩ := trodAll_nil r1
  obtain rfl : args = #[v0, v1] := by cases args; simp_all
  obtain ⟨rfl, rfl⟩ := trodVars_none hV
  have k0 := h0
  have lt0 : ∀ x ∈ p0, x.block < W.heap.size := by obtain ⟨m, hm⟩ := k0; exact DataW.trod_lt m _ _ _ hm
  obtain ⟨s0, a0, len0, cap0, z0, rfl, w0⟩ := isBig_of Try.underlying24 (by kernel_rfl) (by kernel_rfl) Try.underlying4 Try.underlying22 Try.underlying3 (by kernel_rfl) (hval 0 24 v0 rfl rfl) h0
  obtain ⟨a1, len1, cap1, rfl⟩ := okWide_slice Try.underlying22 (hval 1 22 v1 rfl rfl)
  have k1 := h1
  have lt1 : ∀ x ∈ p1, x.block < W.heap.size := by obtain ⟨m, hm⟩ := k1; exact DataW.trod_lt m _ _ _ hm
  obtain ⟨z1, w1⟩ := isInts_of Try.underlying22 Try.underlying3 (by kernel_rfl) h1
  clear hA0 hval0
  refine (walk W s0 a0 len0 cap0 z0 w0 a1 len1 cap1 z1 w1).mono fun e W' ⟨he, bel⟩ => ?_
  subst he
  exact ⟨_, rfl, _, _, _, [], _, [], hW', trodAll_mk1 (shut_bool Try.underlying4 _), (trodAll_cons_mk (Below.trod laidOut (by kernel_rfl) (of_decide_eq_true (by kernel_rfl)) k0 bel lt0) (trodAll_cons_mk (Below.trod laidOut (by kernel_rfl) (of_decide_eq_true (by kernel_rfl)) k1 bel lt1) trodAll_mk0)), rfl, bel.frame _, fun h => by cases h⟩

theorem over : Rows.fnExactBigIntFloorDivRow.holds Try.pinned (OpenSpec.ofChange Rows.fnExactBigIntFloorDivSpec) :=
  OpenClaim.holds_of_wide 11 Try.f11 rfl rfl rfl rfl rfl rfl rfl ⟨rfl, rfl, rfl, rfl, rfl⟩ rfl rfl rfl rfl rfl (by kernel_rfl) Try.func11 (by kernel_rfl)
    (of_decide_eq_true (by kernel_rfl)) (by unfold Func.isWrapper; first | (rw [if_pos (by decide +kernel)]; kernel_rfl) | (rw [if_neg (by decide +kernel)]; exact ⟨rfl, rfl⟩))
    (fun os started H enc _ => lifted os started H enc)

theorem proved : Rows.FnExactBigIntFloorDivSaid := over
#print axioms proved
end Go.Proofs.Ythijfjjeklmemaa.lawBigIntFloorDiv
