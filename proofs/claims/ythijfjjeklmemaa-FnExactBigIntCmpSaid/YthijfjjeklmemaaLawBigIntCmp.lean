/- Proved: at all big integers, impl.BigIntCmp answers as its model spec.BigIntCmp in every result, writes into no argument, its answer owns its memory, the call returns true and changes no memory that was there. Conditions: none. -/
import Derived.Test.YthijfjjeklmemaaRows
import Derived.Test.YthijfjjeklmemaaHelpI
import Derived.Test.YthijfjjeklmemaaOpen
import Derived.Test.YthijfjjeklmemaaOpenB
import Derived.Test.YthijfjjeklmemaaBigCmp
import Derived.WalkKit
import Derived.ProofKit
import Derived.OpenShut
import Derived.ShutString
import Derived.ChangeOld
import Derived.Below
namespace Go.Proofs.Ythijfjjeklmemaa.lawBigIntCmp
open Go.ChangeShapes Go.WideShapes Go.ChangeAt Go.RowKit
open Go.ChangeMaps (open_string shut_string)
set_option linter.unusedVariables false

theorem own : ownKnob Try.prog.godebug = none := by kernel_rfl
theorem laidOut : laidOutB Try.prog = true := by kernel_rfl
open Nt

set_option maxRecDepth 100000 in
set_option maxHeartbeats 4000000 in
theorem walk (W : World) (s0 : Bool) (a0 : Option Addr) (len0 cap0 : Nat) (z0 : List Int) (w0 : IsInts .i64 W a0 len0 cap0 z0) (s1 : Bool) (a1 : Option Addr) (len1 cap1 : Nat) (z1 : List Int) (w1 : IsInts .i64 W a1 len1 cap1 z1) :
    Calls Try.prog 10 #[.agg #[.bool s0, .slice a0 len0 cap0], .agg #[.bool s1, .slice a1 len1 cap1]] W fun e w' => e = .returned (.bool true) ∧ Below W.heap.size W w' := by
  obtain ⟨hA0, hcap0, hcm0, hzs0⟩ := w0
  have hlm0 : len0 ≤ 9223372036854775807 := by unfold maxLen at hcm0; omega
  have HZ0 := Lib.hid (show (ints z0).length = len0 from hA0.1)
  have HA0 := Lib.hid (show VRow W a0 len0 (ints z0) from hA0)
  clear hA0 hzs0 hcm0
  obtain ⟨hA1, hcap1, hcm1, hzs1⟩ := w1
  have hlm1 : len1 ≤ 9223372036854775807 := by unfold maxLen at hcm1; omega
  have HZ1 := Lib.hid (show (ints z1).length = len1 from hA1.1)
  have HA1 := Lib.hid (show VRow W a1 len1 (ints z1) from hA1)
  clear hA1 hzs1 hcm1
  have HB_0 := Lib.hid (((Below.refl W.heap.size W).alloc (Nat.le_refl _) (.cells #[.bool s0, .slice a0 len0 cap0] 24)).alloc (by simp) (.cells #[.bool s1, .slice a1 len1 cap1] 24))
  have K_a0_0 := Lib.hid ((Held.new_at W (W.heap.size) (.bool s0) (.slice a0 len0 cap0) 24 (by first | rfl | simp)).alloc (.cells #[.bool s1, .slice a1 len1 cap1] 24))
  have K_a1_0 := Lib.hid (Held.new_at (W.alloc (.cells #[.bool s0, .slice a0 len0 cap0] 24)) (W.heap.size + 1) (.bool s1) (.slice a1 len1 cap1) 24 (by first | rfl | simp))
  go_enter Try.func10, Try.ntmps10
  go_wp2_with fail
  refine (szBigInt_any s0 a0 len0 cap0 1048576 _ (by omega) (by omega) (by omega)).mono ?_
  rintro e w1 ⟨rfl, hb⟩
  have K_a0_1 := Lib.hid (K_a0_0.out.after hb)
  clear K_a0_0
  have K_a1_1 := Lib.hid (K_a1_0.out.after hb)
  clear K_a1_0
  have HB_1 := Lib.hid (HB_0.out.trans (hb.mono HB_0.out.size))
  clear hb HB_0
  by_cases hs0 : (1048576 : Int) < len0
  · rw [szOf_neg hs0]
    go_wp2
    go_ret
    exact ⟨rfl, HB_1.out⟩
  rw [szOf_pos hs0]
  obtain ⟨left0, hq0⟩ : ∃ q : Int, 1048576 - (len0 : Int) = q := ⟨_, rfl⟩
  have hl00 : 0 ≤ left0 ∧ left0 ≤ 1048576 ∧ len0 ≤ 1048576 := by omega
  rw [hq0]
  clear hq0 hs0
  have hk_a1_c0_1 := K_a1_1.out.c0
  have hk_a1_c1_1 := K_a1_1.out.c1
  go_wp2_with fail
  refine (szBigInt_any s1 a1 len1 cap1 left0 _ (by omega) (by omega) (by omega)).mono ?_
  rintro e w2 ⟨rfl, hb⟩
  have K_a0_2 := Lib.hid (K_a0_1.out.after hb)
  clear K_a0_1
  have K_a1_2 := Lib.hid (K_a1_1.out.after hb)
  clear K_a1_1
  have HB_2 := Lib.hid (HB_1.out.trans (hb.mono HB_1.out.size))
  clear hb HB_1
  clear hk_a1_c0_1
  clear hk_a1_c1_1
  by_cases hs1 : (left0 : Int) < len1
  · rw [szOf_neg hs1]
    go_wp2
    go_ret
    exact ⟨rfl, HB_2.out⟩
  rw [szOf_pos hs1]
  obtain ⟨left1, hq1⟩ : ∃ q : Int, left0 - (len1 : Int) = q := ⟨_, rfl⟩
  have hl01 : 0 ≤ left1 ∧ left1 ≤ 1048576 ∧ len1 ≤ 1048576 := by omega
  rw [hq1]
  clear hq1 hs1
  have hk_a0_c0_2 := K_a0_2.out.c0
  have hk_a0_c1_2 := K_a0_2.out.c1
  have hk_a1_c0_2 := K_a1_2.out.c0
  have hk_a1_c1_2 := K_a1_2.out.c1
  go_wp2
  go_region_held3 (fun w' => w'.cell? ⟨W.heap.size, 0, none⟩ = some (.bool s0) ∧ w'.cell? ⟨W.heap.size, 1, none⟩ = some (.slice a0 len0 cap0) ∧ w'.cell? ⟨W.heap.size + 1, 0, none⟩ = some (.bool s1) ∧ w'.cell? ⟨W.heap.size + 1, 1, none⟩ = some (.slice a1 len1 cap1)) (go_keep)
    (first
      | (go_at_call_of 14 (Value.agg #[Value.bool s0, Value.slice a0 len0 cap0])
         refine (toBigInt_any s0 a0 len0 cap0 z0 _ (HA0.out.below HB_2.out.drew (Nat.le_refl _)) (by omega)).mono ?_
         rintro e w3 ⟨v_t0, rfl, ho_t0, hb⟩
         obtain ⟨A_t0, c_t0, hv⟩ := ho_t0.shape
         rw [HZ0.out] at hv
         subst hv
         have H_t0_0 := Lib.hid (ho_t0.based HB_2.out.drew.size)
         clear ho_t0
         have K_a0_3 := Lib.hid (K_a0_2.out.drew.after hb)
         clear K_a0_2
         have K_a1_3 := Lib.hid (K_a1_2.out.drew.after hb)
         clear K_a1_2
         have HB_3 := Lib.hid (HB_2.out.drew.trans (hb.mono HB_2.out.drew.size))
         clear hb HB_2
         have hk_a0_c0_3 := K_a0_3.out.c0
         have hk_a0_c1_3 := K_a0_3.out.c1
         have hk_a1_c0_3 := K_a1_3.out.c0
         have hk_a1_c1_3 := K_a1_3.out.c1)
      | (go_at_call_of 14 (Value.agg #[Value.bool s1, Value.slice a1 len1 cap1])
         refine (toBigInt_any s1 a1 len1 cap1 z1 _ (HA1.out.below HB_3.out (Nat.le_refl _)) (by omega)).mono ?_
         rintro e w4 ⟨v_t1, rfl, ho_t1, hb⟩
         obtain ⟨A_t1, c_t1, hv⟩ := ho_t1.shape
         rw [HZ1.out] at hv
         subst hv
         have H_t1_0 := Lib.hid (ho_t1.based HB_3.out.size)
         clear ho_t1
         have K_a0_4 := Lib.hid (K_a0_3.out.after hb)
         clear K_a0_3
         have K_a1_4 := Lib.hid (K_a1_3.out.after hb)
         clear K_a1_3
         have H_t0_4 := Lib.hid (OwnV.below (w := w3) H_t0_0.out hb)
         clear H_t0_0
         have HB_4 := Lib.hid (HB_3.out.trans (hb.mono HB_3.out.size))
         clear hb HB_3
         have hk_a0_c0_4 := K_a0_4.out.c0
         have hk_a0_c1_4 := K_a0_4.out.c1
         have hk_a1_c0_4 := K_a1_4.out.c0
         have hk_a1_c1_4 := K_a1_4.out.c1)
      | (go_at_call 31
         refine (bigIntCmp_spec s0 s1 A_t0 A_t1 len0 c_t0 len1 c_t1 z0 z1 _ H_t0_4.out.row H_t1_0.out.row (by unfold maxLen; omega) (by unfold maxLen; omega)).mono ?_
         rintro e w5 ⟨rfl, hb⟩
         have K_a0_5 := Lib.hid (K_a0_4.out.after hb)
         clear K_a0_4
         have K_a1_5 := Lib.hid (K_a1_4.out.after hb)
         clear K_a1_4
         have H_t0_5 := Lib.hid (OwnV.below (w := w4) H_t0_4.out hb)
         clear H_t0_4
         have H_t1_5 := Lib.hid (OwnV.below (w := w4) H_t1_0.out hb)
         clear H_t1_0
         have HB_5 := Lib.hid (HB_4.out.trans (hb.mono HB_4.out.size))
         clear hb HB_4
         have hk_a0_c0_5 := K_a0_5.out.c0
         have hk_a0_c1_5 := K_a0_5.out.c1
         have hk_a1_c0_5 := K_a1_5.out.c0
         have hk_a1_c1_5 := K_a1_5.out.c1))
  clear H_t0_5
  clear H_t1_5
  have hk_a0_c0_5 := K_a0_5.out.c0
  have hk_a0_c1_5 := K_a0_5.out.c1
  go_wp2_with fail
  refine (toBigInt_any s0 a0 len0 cap0 z0 _ (HA0.out.below HB_5.out (Nat.le_refl _)) (by omega)).mono ?_
  rintro e w6 ⟨v_x0, rfl, ho_x0, hb⟩
  obtain ⟨A_x0, c_x0, hv⟩ := ho_x0.shape
  rw [HZ0.out] at hv
  subst hv
  have BN_a0_x0 := Lib.hid (OwnV.bn ho_x0 K_a0_5.out.lt)
  have BN_a1_x0 := Lib.hid (OwnV.bn ho_x0 K_a1_5.out.lt)
  have H_x0_0 := Lib.hid (ho_x0.based HB_5.out.size)
  clear ho_x0
  have K_a0_6 := Lib.hid (K_a0_5.out.after hb)
  clear K_a0_5
  have K_a1_6 := Lib.hid (K_a1_5.out.after hb)
  clear K_a1_5
  have HB_6 := Lib.hid (HB_5.out.trans (hb.mono HB_5.out.size))
  clear hb HB_5
  clear hk_a0_c0_5
  clear hk_a0_c1_5
  have K_a0_7 := Lib.hid (K_a0_6.out.alloc (.cells #[.bool s0, .slice A_x0 len0 c_x0] 27))
  clear K_a0_6
  have K_a1_7 := Lib.hid (K_a1_6.out.alloc (.cells #[.bool s0, .slice A_x0 len0 c_x0] 27))
  clear K_a1_6
  have K_x0_7 := Lib.hid (Held.new w6 (.bool s0) (.slice A_x0 len0 c_x0) 27)
  have BN_x0_x0 := Lib.hid (OwnV.bn_new H_x0_0.out)
  have H_x0_7 := Lib.hid (OwnV.below H_x0_0.out ((Below.refl _ w6).alloc (Nat.le_refl _) (.cells #[.bool s0, .slice A_x0 len0 c_x0] 27)))
  clear H_x0_0
  have HB_7 := Lib.hid (HB_6.out.alloc HB_6.out.size (.cells #[.bool s0, .slice A_x0 len0 c_x0] 27))
  clear HB_6
  have hk_a1_c0_7 := K_a1_7.out.c0
  have hk_a1_c1_7 := K_a1_7.out.c1
  go_wp2_with fail
  refine (toBigInt_any s1 a1 len1 cap1 z1 _ (HA1.out.below HB_7.out (Nat.le_refl _)) (by omega)).mono ?_
  rintro e w7 ⟨v_x1, rfl, ho_x1, hb⟩
  obtain ⟨A_x1, c_x1, hv⟩ := ho_x1.shape
  rw [HZ1.out] at hv
  subst hv
  have AP_x0_x1 := Lib.hid (OwnV.apart H_x0_7.out ho_x1 (Nat.le_refl _))
  have AP_x1_x0 := Lib.hid (OwnV.apart' ho_x1 H_x0_7.out (Nat.le_refl _))
  have BN_a0_x1 := Lib.hid (OwnV.bn ho_x1 K_a0_7.out.lt)
  have BN_a1_x1 := Lib.hid (OwnV.bn ho_x1 K_a1_7.out.lt)
  have BN_x0_x1 := Lib.hid (OwnV.bn ho_x1 K_x0_7.out.lt)
  have H_x1_0 := Lib.hid (ho_x1.based HB_7.out.size)
  clear ho_x1
  have K_a0_8 := Lib.hid (K_a0_7.out.after hb)
  clear K_a0_7
  have K_a1_8 := Lib.hid (K_a1_7.out.after hb)
  clear K_a1_7
  have K_x0_8 := Lib.hid (K_x0_7.out.after hb)
  clear K_x0_7
  have H_x0_8 := Lib.hid (OwnV.below (w := (w6.alloc (.cells #[.bool s0, .slice A_x0 len0 c_x0] 27))) H_x0_7.out hb)
  clear H_x0_7
  have HB_8 := Lib.hid (HB_7.out.trans (hb.mono HB_7.out.size))
  clear hb HB_7
  clear hk_a1_c0_7
  clear hk_a1_c1_7
  have K_a0_9 := Lib.hid (K_a0_8.out.alloc (.cells #[.bool s1, .slice A_x1 len1 c_x1] 27))
  clear K_a0_8
  have K_a1_9 := Lib.hid (K_a1_8.out.alloc (.cells #[.bool s1, .slice A_x1 len1 c_x1] 27))
  clear K_a1_8
  have K_x0_9 := Lib.hid (K_x0_8.out.alloc (.cells #[.bool s1, .slice A_x1 len1 c_x1] 27))
  clear K_x0_8
  have K_x1_9 := Lib.hid (Held.new w7 (.bool s1) (.slice A_x1 len1 c_x1) 27)
  have BN_x1_x0 := Lib.hid (OwnV.bn_new H_x0_8.out)
  have H_x0_9 := Lib.hid (OwnV.below H_x0_8.out ((Below.refl _ w7).alloc (Nat.le_refl _) (.cells #[.bool s1, .slice A_x1 len1 c_x1] 27)))
  clear H_x0_8
  have BN_x1_x1 := Lib.hid (OwnV.bn_new H_x1_0.out)
  have H_x1_9 := Lib.hid (OwnV.below H_x1_0.out ((Below.refl _ w7).alloc (Nat.le_refl _) (.cells #[.bool s1, .slice A_x1 len1 c_x1] 27)))
  clear H_x1_0
  have HB_9 := Lib.hid (HB_8.out.alloc HB_8.out.size (.cells #[.bool s1, .slice A_x1 len1 c_x1] 27))
  clear HB_8
  have hk_x0_c0_9 := K_x0_9.out.c0
  have hk_x0_c1_9 := K_x0_9.out.c1
  have hk_x1_c0_9 := K_x1_9.out.c0
  have hk_x1_c1_9 := K_x1_9.out.c1
  go_wp2_with fail
  refine (bigIntCmp_impl s0 s1 A_x0 A_x1 len0 c_x0 len1 c_x1 z0 z1 _ H_x0_9.out.row H_x1_9.out.row (by unfold maxLen; omega) (by unfold maxLen; omega)).mono ?_
  rintro e w8 ⟨rfl, hb⟩
  have K_a0_10 := Lib.hid (K_a0_9.out.after hb)
  clear K_a0_9
  have K_a1_10 := Lib.hid (K_a1_9.out.after hb)
  clear K_a1_9
  have K_x0_10 := Lib.hid (K_x0_9.out.after hb)
  clear K_x0_9
  have K_x1_10 := Lib.hid (K_x1_9.out.after hb)
  clear K_x1_9
  have H_x0_10 := Lib.hid (OwnV.below (w := (w7.alloc (.cells #[.bool s1, .slice A_x1 len1 c_x1] 27))) H_x0_9.out hb)
  clear H_x0_9
  have H_x1_10 := Lib.hid (OwnV.below (w := (w7.alloc (.cells #[.bool s1, .slice A_x1 len1 c_x1] 27))) H_x1_9.out hb)
  clear H_x1_9
  have HB_10 := Lib.hid (HB_9.out.trans (hb.mono HB_9.out.size))
  clear hb HB_9
  clear hk_x0_c0_9
  clear hk_x0_c1_9
  clear hk_x1_c0_9
  clear hk_x1_c1_9
  have hk_x0_c0_10 := K_x0_10.out.c0
  have hk_x0_c1_10 := K_x0_10.out.c1
  have hk_a0_c0_10 := K_a0_10.out.c0
  have hk_a0_c1_10 := K_a0_10.out.c1
  go_wp2
  go_region_held3 (fun w' => w'.cell? ⟨w6.heap.size, 0, none⟩ = some (.bool s0) ∧ w'.cell? ⟨w6.heap.size, 1, none⟩ = some (.slice A_x0 len0 c_x0) ∧ w'.cell? ⟨W.heap.size, 0, none⟩ = some (.bool s0) ∧ w'.cell? ⟨W.heap.size, 1, none⟩ = some (.slice a0 len0 cap0)) (go_keep)
    (first
      | (go_at_call 14
         refine (toBigInt_any s0 a0 len0 cap0 z0 _ (HA0.out.below HB_10.out.drew (Nat.le_refl _)) (by omega)).mono ?_
         rintro e w9 ⟨v_tt0, rfl, ho_tt0, hb⟩
         obtain ⟨A_tt0, c_tt0, hv⟩ := ho_tt0.shape
         rw [HZ0.out] at hv
         subst hv
         have H_tt0_0 := Lib.hid (ho_tt0.based HB_10.out.drew.size)
         clear ho_tt0
         have K_a0_11 := Lib.hid (K_a0_10.out.drew.after hb)
         clear K_a0_10
         have K_a1_11 := Lib.hid (K_a1_10.out.drew.after hb)
         clear K_a1_10
         have K_x0_11 := Lib.hid (K_x0_10.out.drew.after hb)
         clear K_x0_10
         have K_x1_11 := Lib.hid (K_x1_10.out.drew.after hb)
         clear K_x1_10
         have H_x0_11 := Lib.hid (OwnV.below (w := w8.drew) H_x0_10.out hb)
         clear H_x0_10
         have H_x1_11 := Lib.hid (OwnV.below (w := w8.drew) H_x1_10.out hb)
         clear H_x1_10
         have HB_11 := Lib.hid (HB_10.out.drew.trans (hb.mono HB_10.out.drew.size))
         clear hb HB_10
         have hk_x0_c0_11 := K_x0_11.out.c0
         have hk_x0_c1_11 := K_x0_11.out.c1
         have hk_a0_c0_11 := K_a0_11.out.c0
         have hk_a0_c1_11 := K_a0_11.out.c1)
      | (go_at_call 16
         refine (eqBigInt_same s0 A_x0 A_tt0 len0 c_x0 c_tt0 z0 _ H_x0_11.out.row H_tt0_0.out.row (by unfold maxLen; omega)).mono ?_
         rintro e w10 ⟨rfl, hb⟩
         have K_a0_12 := Lib.hid (K_a0_11.out.after hb)
         clear K_a0_11
         have K_a1_12 := Lib.hid (K_a1_11.out.after hb)
         clear K_a1_11
         have K_x0_12 := Lib.hid (K_x0_11.out.after hb)
         clear K_x0_11
         have K_x1_12 := Lib.hid (K_x1_11.out.after hb)
         clear K_x1_11
         have H_x0_12 := Lib.hid (OwnV.below (w := w9) H_x0_11.out hb)
         clear H_x0_11
         have H_x1_12 := Lib.hid (OwnV.below (w := w9) H_x1_11.out hb)
         clear H_x1_11
         have H_tt0_12 := Lib.hid (OwnV.below (w := w9) H_tt0_0.out hb)
         clear H_tt0_0
         have HB_12 := Lib.hid (HB_11.out.trans (hb.mono HB_11.out.size))
         clear hb HB_11
         have hk_x0_c0_12 := K_x0_12.out.c0
         have hk_x0_c1_12 := K_x0_12.out.c1
         have hk_a0_c0_12 := K_a0_12.out.c0
         have hk_a0_c1_12 := K_a0_12.out.c1))
  clear H_tt0_12
  have hk_x1_c0_12 := K_x1_12.out.c0
  have hk_x1_c1_12 := K_x1_12.out.c1
  have hk_a1_c0_12 := K_a1_12.out.c0
  have hk_a1_c1_12 := K_a1_12.out.c1
  go_wp2
  go_region_held3 (fun w' => w'.cell? ⟨w7.heap.size, 0, none⟩ = some (.bool s1) ∧ w'.cell? ⟨w7.heap.size, 1, none⟩ = some (.slice A_x1 len1 c_x1) ∧ w'.cell? ⟨W.heap.size + 1, 0, none⟩ = some (.bool s1) ∧ w'.cell? ⟨W.heap.size + 1, 1, none⟩ = some (.slice a1 len1 cap1)) (go_keep)
    (first
      | (go_at_call 14
         refine (toBigInt_any s1 a1 len1 cap1 z1 _ (HA1.out.below HB_12.out.drew (Nat.le_refl _)) (by omega)).mono ?_
         rintro e w11 ⟨v_tt1, rfl, ho_tt1, hb⟩
         obtain ⟨A_tt1, c_tt1, hv⟩ := ho_tt1.shape
         rw [HZ1.out] at hv
         subst hv
         have H_tt1_0 := Lib.hid (ho_tt1.based HB_12.out.drew.size)
         clear ho_tt1
         have K_a0_13 := Lib.hid (K_a0_12.out.drew.after hb)
         clear K_a0_12
         have K_a1_13 := Lib.hid (K_a1_12.out.drew.after hb)
         clear K_a1_12
         have K_x0_13 := Lib.hid (K_x0_12.out.drew.after hb)
         clear K_x0_12
         have K_x1_13 := Lib.hid (K_x1_12.out.drew.after hb)
         clear K_x1_12
         have H_x0_13 := Lib.hid (OwnV.below (w := w10.drew) H_x0_12.out hb)
         clear H_x0_12
         have H_x1_13 := Lib.hid (OwnV.below (w := w10.drew) H_x1_12.out hb)
         clear H_x1_12
         have HB_13 := Lib.hid (HB_12.out.drew.trans (hb.mono HB_12.out.drew.size))
         clear hb HB_12
         have hk_x1_c0_13 := K_x1_13.out.c0
         have hk_x1_c1_13 := K_x1_13.out.c1
         have hk_a1_c0_13 := K_a1_13.out.c0
         have hk_a1_c1_13 := K_a1_13.out.c1)
      | (go_at_call 16
         refine (eqBigInt_same s1 A_x1 A_tt1 len1 c_x1 c_tt1 z1 _ H_x1_13.out.row H_tt1_0.out.row (by unfold maxLen; omega)).mono ?_
         rintro e w12 ⟨rfl, hb⟩
         have K_a0_14 := Lib.hid (K_a0_13.out.after hb)
         clear K_a0_13
         have K_a1_14 := Lib.hid (K_a1_13.out.after hb)
         clear K_a1_13
         have K_x0_14 := Lib.hid (K_x0_13.out.after hb)
         clear K_x0_13
         have K_x1_14 := Lib.hid (K_x1_13.out.after hb)
         clear K_x1_13
         have H_x0_14 := Lib.hid (OwnV.below (w := w11) H_x0_13.out hb)
         clear H_x0_13
         have H_x1_14 := Lib.hid (OwnV.below (w := w11) H_x1_13.out hb)
         clear H_x1_13
         have H_tt1_14 := Lib.hid (OwnV.below (w := w11) H_tt1_0.out hb)
         clear H_tt1_0
         have HB_14 := Lib.hid (HB_13.out.trans (hb.mono HB_13.out.size))
         clear hb HB_13
         have hk_x1_c0_14 := K_x1_14.out.c0
         have hk_x1_c1_14 := K_x1_14.out.c1
         have hk_a1_c0_14 := K_a1_14.out.c0
         have hk_a1_c1_14 := K_a1_14.out.c1))
  clear H_tt1_14
  go_wp2
  go_ret
  exact ⟨rfl, HB_14.out⟩

set_option maxRecDepth 100000 in
theorem lifted (os : Os) (started : os.Started) (H : Type) (enc : TypeId × Value → H) :
    ReturnsInHanded {} Try.checked os 10 .any (Rows.fnExactBigIntCmpSpec.pre6 enc Try.prog Try.f10 Rows.fnExactBigIntCmpRow.domain false) (Rows.fnExactBigIntCmpSpec.post enc Try.prog Try.f10 false true false false) := by
  refine returnsInHanded_of_change (C := Try.checked) own started (by kernel_rfl) Try.func10
    (ChangeSpec.witness6 (enc := enc) (C := Try.checked) false ⟨#[], #[.agg #[.bool false, .slice none 0 0], .agg #[.bool false, .slice none 0 0]], []⟩ 8 (by kernel_rfl) (by kernel_rfl) (by kernel_rfl) (by kernel_rfl)) ?_
  intro W base args ds gs before hval0 hW hcnd _
  have hval : ∀ (j : Nat) t v, Try.f10.params[j]? = some t → args[j]? = some v → Value.okWide Try.prog W .any base t v := hval0
  have hW' := hW
  obtain ⟨p, q, hA0, hV, rfl, hfz, hnd⟩ := hW
  have hA : DataW.TrodAll enc Try.prog W 0 (fun _ => true) true Try.f10.params.toList args.toList ds p := hA0
  rw [Try.params10] at hA hval
  obtain ⟨v0, vs0, d0, ds0, p0, q0, hargs, rfl, rfl, h0, r0⟩ := trodAll_cons hA
  obtain ⟨v1, vs1, d1, ds1, p1, q1, rfl, rfl, rfl, h1, r1⟩ := trodAll_cons r0
  obtain ⟨rfl, rfl, rfl⟩ := trodAll_nil r1
  obtain rfl : args = #[v0, v1] := by cases args; simp_all
  obtain ⟨rfl, rfl⟩ := trodVars_none hV
  have k0 := h0
  have lt0 : ∀ x ∈ p0, x.block < W.heap.size := by obtain ⟨m, hm⟩ := k0; exact DataW.trod_lt m _ _ _ hm
  obtain ⟨s0, a0, len0, cap0, z0, rfl, w0⟩ := isBig_of Try.underlying24 (by kernel_rfl) (by kernel_rfl) Try.underlying4 Try.underlying22 Try.underlying3 (by kernel_rfl) (hval 0 24 v0 rfl rfl) h0
  have k1 := h1
  have lt1 : ∀ x ∈ p1, x.block < W.heap.size := by obtain ⟨m, hm⟩ := k1; exact DataW.trod_lt m _ _ _ hm
  obtain ⟨s1, a1, len1, cap1, z1, rfl, w1⟩ := isBig_of Try.underlying24 (by kernel_rfl) (by kernel_rfl) Try.underlying4 Try.underlying22 Try.underlying3 (by kernel_rfl) (hval 1 24 v1 rfl rfl) h1
  clear hA0 hval0
  refine (walk W s0 a0 len0 cap0 z0 w0 s1 a1 len1 cap1 z1 w1).mono fun e W' ⟨he, bel⟩ => ?_
  subst he
  exact ⟨_, rfl, _, _, _, [], _, [], hW', trodAll_mk1 (shut_bool Try.underlying4 _), (trodAll_cons_mk (Below.trod laidOut (by kernel_rfl) (of_decide_eq_true (by kernel_rfl)) k0 bel lt0) (trodAll_cons_mk (Below.trod laidOut (by kernel_rfl) (of_decide_eq_true (by kernel_rfl)) k1 bel lt1) trodAll_mk0)), rfl, bel.frame _, fun h => by cases h⟩

theorem over : Rows.fnExactBigIntCmpRow.holds Try.pinned (OpenSpec.ofChange Rows.fnExactBigIntCmpSpec) :=
  OpenClaim.holds_of_wide 10 Try.f10 rfl rfl rfl rfl rfl rfl rfl ⟨rfl, rfl, rfl, rfl, rfl⟩ rfl rfl rfl rfl rfl (by kernel_rfl) Try.func10 (by kernel_rfl)
    (of_decide_eq_true (by kernel_rfl)) (by unfold Func.isWrapper; first | (rw [if_pos (by decide +kernel)]; kernel_rfl) | (rw [if_neg (by decide +kernel)]; exact ⟨rfl, rfl⟩))
    (fun os started H enc _ => lifted os started H enc)

theorem proved : Rows.FnExactBigIntCmpSaid := over
#print axioms proved
end Go.Proofs.Ythijfjjeklmemaa.lawBigIntCmp
