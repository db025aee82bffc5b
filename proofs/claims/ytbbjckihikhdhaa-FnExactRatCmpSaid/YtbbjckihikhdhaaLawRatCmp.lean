/- Proved: at all fractions, impl.RatCmp answers as its model spec.RatCmp in every result, writes into no argument, its answer owns its memory, the call returns true and changes no memory that was there. Conditions: none. -/
import Derived.Test.YtbbjckihikhdhaaRows
import Derived.Test.YtbbjckihikhdhaaB1
import Derived.Test.YtbbjckihikhdhaaB5
import Derived.Test.YtbbjckihikhdhaaB8
import Derived.WalkKit
import Derived.ProofKit
import Derived.OpenShut
import Derived.ShutString
import Derived.ChangeOld
import Derived.Below
namespace Go.Proofs.Ytbbjckihikhdhaa.lawRatCmp
open Go.ChangeShapes Go.WideShapes Go.ChangeAt Go.RowKit
open Go.ChangeMaps (open_string shut_string)
set_option linter.unusedVariables false

theorem own : ownKnob Try.prog.godebug = none := by kernel_rfl
theorem laidOut : laidOutB Try.prog = true := by kernel_rfl
open Nt

set_option maxRecDepth 100000 in
set_option maxHeartbeats 4000000 in
theorem walk (W : World) (s0 : Bool) (a0 : Option Addr) (len0 cap0 : Nat) (z0 : List Int) (w0 : IsInts .i64 W a0 len0 cap0 z0) (a0b : Option Addr) (len0b cap0b : Nat) (z0b : List Int) (w0b : IsInts .i64 W a0b len0b cap0b z0b) (s1 : Bool) (a1 : Option Addr) (len1 cap1 : Nat) (z1 : List Int) (w1 : IsInts .i64 W a1 len1 cap1 z1) (a1b : Option Addr) (len1b cap1b : Nat) (z1b : List Int) (w1b : IsInts .i64 W a1b len1b cap1b z1b) :
    Calls Try.prog 7 #[.agg #[.bool s0, .slice a0 len0 cap0, .slice a0b len0b cap0b], .agg #[.bool s1, .slice a1 len1 cap1, .slice a1b len1b cap1b]] W fun e w' => e = .returned (.bool true) ∧ Below W.heap.size W w' := by
  obtain ⟨hA0, hcap0, hcm0, hzs0⟩ := w0
  have hlm0 : len0 ≤ 9223372036854775807 := by unfold maxLen at hcm0; omega
  have HZ0 := Lib.hid (show (ints z0).length = len0 from hA0.1)
  have HA0 := Lib.hid (show VRow W a0 len0 (ints z0) from hA0)
  clear hA0 hzs0 hcm0
  obtain ⟨hA0b, hcap0b, hcm0b, hzs0b⟩ := w0b
  have hlm0b : len0b ≤ 9223372036854775807 := by unfold maxLen at hcm0b; omega
  have HZ0b := Lib.hid (show (ints z0b).length = len0b from hA0b.1)
  have HA0b := Lib.hid (show VRow W a0b len0b (ints z0b) from hA0b)
  clear hA0b hzs0b hcm0b
  obtain ⟨hA1, hcap1, hcm1, hzs1⟩ := w1
  have hlm1 : len1 ≤ 9223372036854775807 := by unfold maxLen at hcm1; omega
  have HZ1 := Lib.hid (show (ints z1).length = len1 from hA1.1)
  have HA1 := Lib.hid (show VRow W a1 len1 (ints z1) from hA1)
  clear hA1 hzs1 hcm1
  obtain ⟨hA1b, hcap1b, hcm1b, hzs1b⟩ := w1b
  have hlm1b : len1b ≤ 9223372036854775807 := by unfold maxLen at hcm1b; omega
  have HZ1b := Lib.hid (show (ints z1b).length = len1b from hA1b.1)
  have HA1b := Lib.hid (show VRow W a1b len1b (ints z1b) from hA1b)
  clear hA1b hzs1b hcm1b
  have HB_0 := Lib.hid (((Below.refl W.heap.size W).alloc (Nat.le_refl _) (.cells #[.bool s0, .slice a0 len0 cap0, .slice a0b len0b cap0b] 26)).alloc (by simp) (.cells #[.bool s1, .slice a1 len1 cap1, .slice a1b len1b cap1b] 26))
  have K_a0_0 := Lib.hid ((HeldL.new_at W (W.heap.size) [.bool s0, .slice a0 len0 cap0, .slice a0b len0b cap0b] 26 (by first | rfl | simp)).alloc (.cells #[.bool s1, .slice a1 len1 cap1, .slice a1b len1b cap1b] 26))
  have K_a1_0 := Lib.hid (HeldL.new_at (W.alloc (.cells #[.bool s0, .slice a0 len0 cap0, .slice a0b len0b cap0b] 26)) (W.heap.size + 1) [.bool s1, .slice a1 len1 cap1, .slice a1b len1b cap1b] 26 (by first | rfl | simp))
  go_enter Try.func7, Try.ntmps7
  go_wp2_with fail
  refine (szRat_any s0 a0 len0 cap0 a0b len0b cap0b 1048576 _ (by omega) (by omega) (by omega) (by omega)).mono ?_
  rintro e w1 ⟨rfl, hb⟩
  have K_a0_1 := Lib.hid (K_a0_0.out.after hb)
  clear K_a0_0
  have K_a1_1 := Lib.hid (K_a1_0.out.after hb)
  clear K_a1_0
  have HB_1 := Lib.hid (HB_0.out.trans (hb.mono HB_0.out.size))
  clear hb HB_0
  by_cases hs0 : (1048576 : Int) < (len0 + len0b : Nat)
  · rw [szOf_neg hs0]
    go_wp2
    go_ret
    exact ⟨rfl, HB_1.out⟩
  rw [szOf_pos hs0]
  obtain ⟨left0, hq0⟩ : ∃ q : Int, 1048576 - ((len0 + len0b : Nat) : Int) = q := ⟨_, rfl⟩
  have hl00 : 0 ≤ left0 ∧ left0 ≤ 1048576 ∧ len0 + len0b ≤ 1048576 := by omega
  rw [hq0]
  clear hq0 hs0
  have hk_a1_0_1 := K_a1_1.out.cell 0 _ rfl
  have hk_a1_1_1 := K_a1_1.out.cell 1 _ rfl
  have hk_a1_2_1 := K_a1_1.out.cell 2 _ rfl
  go_wp2_with fail
  refine (szRat_any s1 a1 len1 cap1 a1b len1b cap1b left0 _ (by omega) (by omega) (by omega) (by omega)).mono ?_
  rintro e w2 ⟨rfl, hb⟩
  have K_a0_2 := Lib.hid (K_a0_1.out.after hb)
  clear K_a0_1
  have K_a1_2 := Lib.hid (K_a1_1.out.after hb)
  clear K_a1_1
  have HB_2 := Lib.hid (HB_1.out.trans (hb.mono HB_1.out.size))
  clear hb HB_1
  clear hk_a1_0_1
  clear hk_a1_1_1
  clear hk_a1_2_1
  by_cases hs1 : (left0 : Int) < (len1 + len1b : Nat)
  · rw [szOf_neg hs1]
    go_wp2
    go_ret
    exact ⟨rfl, HB_2.out⟩
  rw [szOf_pos hs1]
  obtain ⟨left1, hq1⟩ : ∃ q : Int, left0 - ((len1 + len1b : Nat) : Int) = q := ⟨_, rfl⟩
  have hl01 : 0 ≤ left1 ∧ left1 ≤ 1048576 ∧ len1 + len1b ≤ 1048576 := by omega
  rw [hq1]
  clear hq1 hs1
  have hk_a0_0_2 := K_a0_2.out.cell 0 _ rfl
  have hk_a0_1_2 := K_a0_2.out.cell 1 _ rfl
  have hk_a0_2_2 := K_a0_2.out.cell 2 _ rfl
  have hk_a1_0_2 := K_a1_2.out.cell 0 _ rfl
  have hk_a1_1_2 := K_a1_2.out.cell 1 _ rfl
  have hk_a1_2_2 := K_a1_2.out.cell 2 _ rfl
  go_wp2
  go_region_held3 (fun w' => w'.cell? ⟨W.heap.size, 0, none⟩ = some (.bool s0) ∧ w'.cell? ⟨W.heap.size, 1, none⟩ = some (.slice a0 len0 cap0) ∧ w'.cell? ⟨W.heap.size, 2, none⟩ = some (.slice a0b len0b cap0b) ∧ w'.cell? ⟨W.heap.size + 1, 0, none⟩ = some (.bool s1) ∧ w'.cell? ⟨W.heap.size + 1, 1, none⟩ = some (.slice a1 len1 cap1) ∧ w'.cell? ⟨W.heap.size + 1, 2, none⟩ = some (.slice a1b len1b cap1b)) (go_keep)
    (first
      | (go_at_call_of 17 (Value.agg #[Value.bool s0, Value.slice a0 len0 cap0, Value.slice a0b len0b cap0b])
         refine (toRat_any s0 a0 len0 cap0 z0 a0b len0b cap0b z0b _ (HA0.out.below HB_2.out.drew (Nat.le_refl _)) (HA0b.out.below HB_2.out.drew (Nat.le_refl _)) (by omega) (by omega)).mono ?_
         rintro e w3 ⟨v_t0, v_t0b, rfl, ho_t0, ho_t0b, ap01, ap10, hb⟩
         obtain ⟨A_t0, c_t0, hv⟩ := ho_t0.shape
         rw [HZ0.out] at hv
         subst hv
         obtain ⟨A_t0b, c_t0b, hv⟩ := ho_t0b.shape
         rw [HZ0b.out] at hv
         subst hv
         have AP_t0_t0b := Lib.hid ap01
         clear ap01
         have AP_t0b_t0 := Lib.hid ap10
         clear ap10
         have H_t0_0 := Lib.hid (ho_t0.based HB_2.out.drew.size)
         clear ho_t0
         have H_t0b_0 := Lib.hid (ho_t0b.based HB_2.out.drew.size)
         clear ho_t0b
         have K_a0_3 := Lib.hid (K_a0_2.out.drew.after hb)
         clear K_a0_2
         have K_a1_3 := Lib.hid (K_a1_2.out.drew.after hb)
         clear K_a1_2
         have HB_3 := Lib.hid (HB_2.out.drew.trans (hb.mono HB_2.out.drew.size))
         clear hb HB_2
         have hk_a0_0_3 := K_a0_3.out.cell 0 _ rfl
         have hk_a0_1_3 := K_a0_3.out.cell 1 _ rfl
         have hk_a0_2_3 := K_a0_3.out.cell 2 _ rfl
         have hk_a1_0_3 := K_a1_3.out.cell 0 _ rfl
         have hk_a1_1_3 := K_a1_3.out.cell 1 _ rfl
         have hk_a1_2_3 := K_a1_3.out.cell 2 _ rfl)
      | (go_at_call_of 17 (Value.agg #[Value.bool s1, Value.slice a1 len1 cap1, Value.slice a1b len1b cap1b])
         refine (toRat_any s1 a1 len1 cap1 z1 a1b len1b cap1b z1b _ (HA1.out.below HB_3.out (Nat.le_refl _)) (HA1b.out.below HB_3.out (Nat.le_refl _)) (by omega) (by omega)).mono ?_
         rintro e w4 ⟨v_t1, v_t1b, rfl, ho_t1, ho_t1b, ap01, ap10, hb⟩
         obtain ⟨A_t1, c_t1, hv⟩ := ho_t1.shape
         rw [HZ1.out] at hv
         subst hv
         obtain ⟨A_t1b, c_t1b, hv⟩ := ho_t1b.shape
         rw [HZ1b.out] at hv
         subst hv
         have AP_t1_t1b := Lib.hid ap01
         clear ap01
         have AP_t1b_t1 := Lib.hid ap10
         clear ap10
         have H_t1_0 := Lib.hid (ho_t1.based HB_3.out.size)
         clear ho_t1
         have H_t1b_0 := Lib.hid (ho_t1b.based HB_3.out.size)
         clear ho_t1b
         have K_a0_4 := Lib.hid (K_a0_3.out.after hb)
         clear K_a0_3
         have K_a1_4 := Lib.hid (K_a1_3.out.after hb)
         clear K_a1_3
         have H_t0_4 := Lib.hid (OwnV.below (w := w3) H_t0_0.out hb)
         clear H_t0_0
         have H_t0b_4 := Lib.hid (OwnV.below (w := w3) H_t0b_0.out hb)
         clear H_t0b_0
         have HB_4 := Lib.hid (HB_3.out.trans (hb.mono HB_3.out.size))
         clear hb HB_3
         have hk_a0_0_4 := K_a0_4.out.cell 0 _ rfl
         have hk_a0_1_4 := K_a0_4.out.cell 1 _ rfl
         have hk_a0_2_4 := K_a0_4.out.cell 2 _ rfl
         have hk_a1_0_4 := K_a1_4.out.cell 0 _ rfl
         have hk_a1_1_4 := K_a1_4.out.cell 1 _ rfl
         have hk_a1_2_4 := K_a1_4.out.cell 2 _ rfl)
      | (go_at_call 28
         refine (ratCmp_spec s0 A_t0 len0 c_t0 z0 A_t0b len0b c_t0b z0b s1 A_t1 len1 c_t1 z1 A_t1b len1b c_t1b z1b _ H_t0_4.out.arg H_t0b_4.out.arg H_t1_0.out.arg H_t1b_0.out.arg).mono ?_
         rintro e w5 ⟨rfl, hb⟩
         have K_a0_5 := Lib.hid (K_a0_4.out.after hb)
         clear K_a0_4
         have K_a1_5 := Lib.hid (K_a1_4.out.after hb)
         clear K_a1_4
         have H_t0_5 := Lib.hid (OwnV.below (w := w4) H_t0_4.out hb)
         clear H_t0_4
         have H_t0b_5 := Lib.hid (OwnV.below (w := w4) H_t0b_4.out hb)
         clear H_t0b_4
         have H_t1_5 := Lib.hid (OwnV.below (w := w4) H_t1_0.out hb)
         clear H_t1_0
         have H_t1b_5 := Lib.hid (OwnV.below (w := w4) H_t1b_0.out hb)
         clear H_t1b_0
         have HB_5 := Lib.hid (HB_4.out.trans (hb.mono HB_4.out.size))
         clear hb HB_4
         have hk_a0_0_5 := K_a0_5.out.cell 0 _ rfl
         have hk_a0_1_5 := K_a0_5.out.cell 1 _ rfl
         have hk_a0_2_5 := K_a0_5.out.cell 2 _ rfl
         have hk_a1_0_5 := K_a1_5.out.cell 0 _ rfl
         have hk_a1_1_5 := K_a1_5.out.cell 1 _ rfl
         have hk_a1_2_5 := K_a1_5.out.cell 2 _ rfl))
  clear H_t0_5
  clear H_t0b_5
  clear H_t1_5
  clear H_t1b_5
  have hk_a0_0_5 := K_a0_5.out.cell 0 _ rfl
  have hk_a0_1_5 := K_a0_5.out.cell 1 _ rfl
  have hk_a0_2_5 := K_a0_5.out.cell 2 _ rfl
  go_wp2_with fail
  refine (toRat_any s0 a0 len0 cap0 z0 a0b len0b cap0b z0b _ (HA0.out.below HB_5.out (Nat.le_refl _)) (HA0b.out.below HB_5.out (Nat.le_refl _)) (by omega) (by omega)).mono ?_
  rintro e w6 ⟨v_x0, v_x0b, rfl, ho_x0, ho_x0b, ap01, ap10, hb⟩
  obtain ⟨A_x0, c_x0, hv⟩ := ho_x0.shape
  rw [HZ0.out] at hv
  subst hv
  obtain ⟨A_x0b, c_x0b, hv⟩ := ho_x0b.shape
  rw [HZ0b.out] at hv
  subst hv
  have AP_x0_x0b := Lib.hid ap01
  clear ap01
  have AP_x0b_x0 := Lib.hid ap10
  clear ap10
  have BN_a0_x0 := Lib.hid (OwnV.bn ho_x0 K_a0_5.out.lt)
  have BN_a1_x0 := Lib.hid (OwnV.bn ho_x0 K_a1_5.out.lt)
  have H_x0_0 := Lib.hid (ho_x0.based HB_5.out.size)
  clear ho_x0
  have BN_a0_x0b := Lib.hid (OwnV.bn ho_x0b K_a0_5.out.lt)
  have BN_a1_x0b := Lib.hid (OwnV.bn ho_x0b K_a1_5.out.lt)
  have H_x0b_0 := Lib.hid (ho_x0b.based HB_5.out.size)
  clear ho_x0b
  have K_a0_6 := Lib.hid (K_a0_5.out.after hb)
  clear K_a0_5
  have K_a1_6 := Lib.hid (K_a1_5.out.after hb)
  clear K_a1_5
  have HB_6 := Lib.hid (HB_5.out.trans (hb.mono HB_5.out.size))
  clear hb HB_5
  clear hk_a0_0_5
  clear hk_a0_1_5
  clear hk_a0_2_5
  have K_a0_7 := Lib.hid (K_a0_6.out.alloc (.cells #[.bool s0, .slice A_x0 len0 c_x0, .slice A_x0b len0b c_x0b] 30))
  clear K_a0_6
  have K_a1_7 := Lib.hid (K_a1_6.out.alloc (.cells #[.bool s0, .slice A_x0 len0 c_x0, .slice A_x0b len0b c_x0b] 30))
  clear K_a1_6
  have K_x0_7 := Lib.hid (HeldL.new w6 [.bool s0, .slice A_x0 len0 c_x0, .slice A_x0b len0b c_x0b] 30)
  have BN_x0_x0 := Lib.hid (OwnV.bn_new H_x0_0.out)
  have H_x0_7 := Lib.hid (OwnV.below H_x0_0.out ((Below.refl _ w6).alloc (Nat.le_refl _) (.cells #[.bool s0, .slice A_x0 len0 c_x0, .slice A_x0b len0b c_x0b] 30)))
  clear H_x0_0
  have BN_x0_x0b := Lib.hid (OwnV.bn_new H_x0b_0.out)
  have H_x0b_7 := Lib.hid (OwnV.below H_x0b_0.out ((Below.refl _ w6).alloc (Nat.le_refl _) (.cells #[.bool s0, .slice A_x0 len0 c_x0, .slice A_x0b len0b c_x0b] 30)))
  clear H_x0b_0
  have HB_7 := Lib.hid (HB_6.out.alloc HB_6.out.size (.cells #[.bool s0, .slice A_x0 len0 c_x0, .slice A_x0b len0b c_x0b] 30))
  clear HB_6
  have hk_a1_0_7 := K_a1_7.out.cell 0 _ rfl
  have hk_a1_1_7 := K_a1_7.out.cell 1 _ rfl
  have hk_a1_2_7 := K_a1_7.out.cell 2 _ rfl
  go_wp2_with fail
  refine (toRat_any s1 a1 len1 cap1 z1 a1b len1b cap1b z1b _ (HA1.out.below HB_7.out (Nat.le_refl _)) (HA1b.out.below HB_7.out (Nat.le_refl _)) (by omega) (by omega)).mono ?_
  rintro e w7 ⟨v_x1, v_x1b, rfl, ho_x1, ho_x1b, ap01, ap10, hb⟩
  obtain ⟨A_x1, c_x1, hv⟩ := ho_x1.shape
  rw [HZ1.out] at hv
  subst hv
  obtain ⟨A_x1b, c_x1b, hv⟩ := ho_x1b.shape
  rw [HZ1b.out] at hv
  subst hv
  have AP_x1_x1b := Lib.hid ap01
  clear ap01
  have AP_x1b_x1 := Lib.hid ap10
  clear ap10
  have AP_x0_x1 := Lib.hid (OwnV.apart H_x0_7.out ho_x1 (Nat.le_refl _))
  have AP_x1_x0 := Lib.hid (OwnV.apart' ho_x1 H_x0_7.out (Nat.le_refl _))
  have AP_x0b_x1 := Lib.hid (OwnV.apart H_x0b_7.out ho_x1 (Nat.le_refl _))
  have AP_x1_x0b := Lib.hid (OwnV.apart' ho_x1 H_x0b_7.out (Nat.le_refl _))
  have BN_a0_x1 := Lib.hid (OwnV.bn ho_x1 K_a0_7.out.lt)
  have BN_a1_x1 := Lib.hid (OwnV.bn ho_x1 K_a1_7.out.lt)
  have BN_x0_x1 := Lib.hid (OwnV.bn ho_x1 K_x0_7.out.lt)
  have H_x1_0 := Lib.hid (ho_x1.based HB_7.out.size)
  clear ho_x1
  have AP_x0_x1b := Lib.hid (OwnV.apart H_x0_7.out ho_x1b (Nat.le_refl _))
  have AP_x1b_x0 := Lib.hid (OwnV.apart' ho_x1b H_x0_7.out (Nat.le_refl _))
  have AP_x0b_x1b := Lib.hid (OwnV.apart H_x0b_7.out ho_x1b (Nat.le_refl _))
  have AP_x1b_x0b := Lib.hid (OwnV.apart' ho_x1b H_x0b_7.out (Nat.le_refl _))
  have BN_a0_x1b := Lib.hid (OwnV.bn ho_x1b K_a0_7.out.lt)
  have BN_a1_x1b := Lib.hid (OwnV.bn ho_x1b K_a1_7.out.lt)
  have BN_x0_x1b := Lib.hid (OwnV.bn ho_x1b K_x0_7.out.lt)
  have H_x1b_0 := Lib.hid (ho_x1b.based HB_7.out.size)
  clear ho_x1b
  have K_a0_8 := Lib.hid (K_a0_7.out.after hb)
  clear K_a0_7
  have K_a1_8 := Lib.hid (K_a1_7.out.after hb)
  clear K_a1_7
  have K_x0_8 := Lib.hid (K_x0_7.out.after hb)
  clear K_x0_7
  have H_x0_8 := Lib.hid (OwnV.below (w := (w6.alloc (.cells #[.bool s0, .slice A_x0 len0 c_x0, .slice A_x0b len0b c_x0b] 30))) H_x0_7.out hb)
  clear H_x0_7
  have H_x0b_8 := Lib.hid (OwnV.below (w := (w6.alloc (.cells #[.bool s0, .slice A_x0 len0 c_x0, .slice A_x0b len0b c_x0b] 30))) H_x0b_7.out hb)
  clear H_x0b_7
  have HB_8 := Lib.hid (HB_7.out.trans (hb.mono HB_7.out.size))
  clear hb HB_7
  clear hk_a1_0_7
  clear hk_a1_1_7
  clear hk_a1_2_7
  have K_a0_9 := Lib.hid (K_a0_8.out.alloc (.cells #[.bool s1, .slice A_x1 len1 c_x1, .slice A_x1b len1b c_x1b] 30))
  clear K_a0_8
  have K_a1_9 := Lib.hid (K_a1_8.out.alloc (.cells #[.bool s1, .slice A_x1 len1 c_x1, .slice A_x1b len1b c_x1b] 30))
  clear K_a1_8
  have K_x0_9 := Lib.hid (K_x0_8.out.alloc (.cells #[.bool s1, .slice A_x1 len1 c_x1, .slice A_x1b len1b c_x1b] 30))
  clear K_x0_8
  have K_x1_9 := Lib.hid (HeldL.new w7 [.bool s1, .slice A_x1 len1 c_x1, .slice A_x1b len1b c_x1b] 30)
  have BN_x1_x0 := Lib.hid (OwnV.bn_new H_x0_8.out)
  have H_x0_9 := Lib.hid (OwnV.below H_x0_8.out ((Below.refl _ w7).alloc (Nat.le_refl _) (.cells #[.bool s1, .slice A_x1 len1 c_x1, .slice A_x1b len1b c_x1b] 30)))
  clear H_x0_8
  have BN_x1_x0b := Lib.hid (OwnV.bn_new H_x0b_8.out)
  have H_x0b_9 := Lib.hid (OwnV.below H_x0b_8.out ((Below.refl _ w7).alloc (Nat.le_refl _) (.cells #[.bool s1, .slice A_x1 len1 c_x1, .slice A_x1b len1b c_x1b] 30)))
  clear H_x0b_8
  have BN_x1_x1 := Lib.hid (OwnV.bn_new H_x1_0.out)
  have H_x1_9 := Lib.hid (OwnV.below H_x1_0.out ((Below.refl _ w7).alloc (Nat.le_refl _) (.cells #[.bool s1, .slice A_x1 len1 c_x1, .slice A_x1b len1b c_x1b] 30)))
  clear H_x1_0
  have BN_x1_x1b := Lib.hid (OwnV.bn_new H_x1b_0.out)
  have H_x1b_9 := Lib.hid (OwnV.below H_x1b_0.out ((Below.refl _ w7).alloc (Nat.le_refl _) (.cells #[.bool s1, .slice A_x1 len1 c_x1, .slice A_x1b len1b c_x1b] 30)))
  clear H_x1b_0
  have HB_9 := Lib.hid (HB_8.out.alloc HB_8.out.size (.cells #[.bool s1, .slice A_x1 len1 c_x1, .slice A_x1b len1b c_x1b] 30))
  clear HB_8
  have hk_x0_0_9 := K_x0_9.out.cell 0 _ rfl
  have hk_x0_1_9 := K_x0_9.out.cell 1 _ rfl
  have hk_x0_2_9 := K_x0_9.out.cell 2 _ rfl
  have hk_x1_0_9 := K_x1_9.out.cell 0 _ rfl
  have hk_x1_1_9 := K_x1_9.out.cell 1 _ rfl
  have hk_x1_2_9 := K_x1_9.out.cell 2 _ rfl
  go_wp2_with fail
  refine (ratCmp_impl s0 A_x0 len0 c_x0 z0 A_x0b len0b c_x0b z0b s1 A_x1 len1 c_x1 z1 A_x1b len1b c_x1b z1b _ H_x0_9.out.arg H_x0b_9.out.arg H_x1_9.out.arg H_x1b_9.out.arg).mono ?_
  rintro e w8 ⟨rfl, hb⟩
  have K_a0_10 := Lib.hid (K_a0_9.out.after hb)
  clear K_a0_9
  have K_a1_10 := Lib.hid (K_a1_9.out.after hb)
  clear K_a1_9
  have K_x0_10 := Lib.hid (K_x0_9.out.after hb)
  clear K_x0_9
  have K_x1_10 := Lib.hid (K_x1_9.out.after hb)
  clear K_x1_9
  have H_x0_10 := Lib.hid (OwnV.below (w := (w7.alloc (.cells #[.bool s1, .slice A_x1 len1 c_x1, .slice A_x1b len1b c_x1b] 30))) H_x0_9.out hb)
  clear H_x0_9
  have H_x0b_10 := Lib.hid (OwnV.below (w := (w7.alloc (.cells #[.bool s1, .slice A_x1 len1 c_x1, .slice A_x1b len1b c_x1b] 30))) H_x0b_9.out hb)
  clear H_x0b_9
  have H_x1_10 := Lib.hid (OwnV.below (w := (w7.alloc (.cells #[.bool s1, .slice A_x1 len1 c_x1, .slice A_x1b len1b c_x1b] 30))) H_x1_9.out hb)
  clear H_x1_9
  have H_x1b_10 := Lib.hid (OwnV.below (w := (w7.alloc (.cells #[.bool s1, .slice A_x1 len1 c_x1, .slice A_x1b len1b c_x1b] 30))) H_x1b_9.out hb)
  clear H_x1b_9
  have HB_10 := Lib.hid (HB_9.out.trans (hb.mono HB_9.out.size))
  clear hb HB_9
  clear hk_x0_0_9
  clear hk_x0_1_9
  clear hk_x0_2_9
  clear hk_x1_0_9
  clear hk_x1_1_9
  clear hk_x1_2_9
  have hk_x0_0_10 := K_x0_10.out.cell 0 _ rfl
  have hk_x0_1_10 := K_x0_10.out.cell 1 _ rfl
  have hk_x0_2_10 := K_x0_10.out.cell 2 _ rfl
  have hk_a0_0_10 := K_a0_10.out.cell 0 _ rfl
  have hk_a0_1_10 := K_a0_10.out.cell 1 _ rfl
  have hk_a0_2_10 := K_a0_10.out.cell 2 _ rfl
  go_wp2
  go_region_held3 (fun w' => w'.cell? ⟨w6.heap.size, 0, none⟩ = some (.bool s0) ∧ w'.cell? ⟨w6.heap.size, 1, none⟩ = some (.slice A_x0 len0 c_x0) ∧ w'.cell? ⟨w6.heap.size, 2, none⟩ = some (.slice A_x0b len0b c_x0b) ∧ w'.cell? ⟨W.heap.size, 0, none⟩ = some (.bool s0) ∧ w'.cell? ⟨W.heap.size, 1, none⟩ = some (.slice a0 len0 cap0) ∧ w'.cell? ⟨W.heap.size, 2, none⟩ = some (.slice a0b len0b cap0b)) (go_keep)
    (first
      | (go_at_call 17
         refine (toRat_any s0 a0 len0 cap0 z0 a0b len0b cap0b z0b _ (HA0.out.below HB_10.out.drew (Nat.le_refl _)) (HA0b.out.below HB_10.out.drew (Nat.le_refl _)) (by omega) (by omega)).mono ?_
         rintro e w9 ⟨v_tt0, v_tt0b, rfl, ho_tt0, ho_tt0b, ap01, ap10, hb⟩
         obtain ⟨A_tt0, c_tt0, hv⟩ := ho_tt0.shape
         rw [HZ0.out] at hv
         subst hv
         obtain ⟨A_tt0b, c_tt0b, hv⟩ := ho_tt0b.shape
         rw [HZ0b.out] at hv
         subst hv
         have AP_tt0_tt0b := Lib.hid ap01
         clear ap01
         have AP_tt0b_tt0 := Lib.hid ap10
         clear ap10
         have H_tt0_0 := Lib.hid (ho_tt0.based HB_10.out.drew.size)
         clear ho_tt0
         have H_tt0b_0 := Lib.hid (ho_tt0b.based HB_10.out.drew.size)
         clear ho_tt0b
         have K_a0_11 := Lib.hid (K_a0_10.out.drew.after hb)
         clear K_a0_10
         have K_a1_11 := Lib.hid (K_a1_10.out.drew.after hb)
         clear K_a1_10
         have K_x0_11 := Lib.hid (K_x0_10.out.drew.after hb)
         clear K_x0_10
         have K_x1_11 := Lib.hid (K_x1_10.out.drew.after hb)
         clear K_x1_10
         have H_x0_11 := Lib.hid (OwnV.below (w := w8.drew) H_x0_10.out hb)
         clear H_x0_10
         have H_x0b_11 := Lib.hid (OwnV.below (w := w8.drew) H_x0b_10.out hb)
         clear H_x0b_10
         have H_x1_11 := Lib.hid (OwnV.below (w := w8.drew) H_x1_10.out hb)
         clear H_x1_10
         have H_x1b_11 := Lib.hid (OwnV.below (w := w8.drew) H_x1b_10.out hb)
         clear H_x1b_10
         have HB_11 := Lib.hid (HB_10.out.drew.trans (hb.mono HB_10.out.drew.size))
         clear hb HB_10
         have hk_x0_0_11 := K_x0_11.out.cell 0 _ rfl
         have hk_x0_1_11 := K_x0_11.out.cell 1 _ rfl
         have hk_x0_2_11 := K_x0_11.out.cell 2 _ rfl
         have hk_a0_0_11 := K_a0_11.out.cell 0 _ rfl
         have hk_a0_1_11 := K_a0_11.out.cell 1 _ rfl
         have hk_a0_2_11 := K_a0_11.out.cell 2 _ rfl)
      | (go_at_call 19
         refine (eqRat_same s0 A_x0 A_tt0 len0 c_x0 c_tt0 z0 A_x0b A_tt0b len0b c_x0b c_tt0b z0b _ H_x0_11.out.row H_tt0_0.out.row H_x0b_11.out.row H_tt0b_0.out.row (by unfold maxLen; omega) (by unfold maxLen; omega)).mono ?_
         rintro e w10 ⟨rfl, hb⟩
         have K_a0_12 := Lib.hid (K_a0_11.out.after hb)
         clear K_a0_11
         have K_a1_12 := Lib.hid (K_a1_11.out.after hb)
         clear K_a1_11
         have K_x0_12 := Lib.hid (K_x0_11.out.after hb)
         clear K_x0_11
         have K_x1_12 := Lib.hid (K_x1_11.out.after hb)
         clear K_x1_11
         have H_x0_12 := Lib.hid (OwnV.below (w := w9) H_x0_11.out hb)
         clear H_x0_11
         have H_x0b_12 := Lib.hid (OwnV.below (w := w9) H_x0b_11.out hb)
         clear H_x0b_11
         have H_x1_12 := Lib.hid (OwnV.below (w := w9) H_x1_11.out hb)
         clear H_x1_11
         have H_x1b_12 := Lib.hid (OwnV.below (w := w9) H_x1b_11.out hb)
         clear H_x1b_11
         have H_tt0_12 := Lib.hid (OwnV.below (w := w9) H_tt0_0.out hb)
         clear H_tt0_0
         have H_tt0b_12 := Lib.hid (OwnV.below (w := w9) H_tt0b_0.out hb)
         clear H_tt0b_0
         have HB_12 := Lib.hid (HB_11.out.trans (hb.mono HB_11.out.size))
         clear hb HB_11
         have hk_x0_0_12 := K_x0_12.out.cell 0 _ rfl
         have hk_x0_1_12 := K_x0_12.out.cell 1 _ rfl
         have hk_x0_2_12 := K_x0_12.out.cell 2 _ rfl
         have hk_a0_0_12 := K_a0_12.out.cell 0 _ rfl
         have hk_a0_1_12 := K_a0_12.out.cell 1 _ rfl
         have hk_a0_2_12 := K_a0_12.out.cell 2 _ rfl))
  clear H_tt0_12
  clear H_tt0b_12
  have hk_x1_0_12 := K_x1_12.out.cell 0 _ rfl
  have hk_x1_1_12 := K_x1_12.out.cell 1 _ rfl
  have hk_x1_2_12 := K_x1_12.out.cell 2 _ rfl
  have hk_a1_0_12 := K_a1_12.out.cell 0 _ rfl
  have hk_a1_1_12 := K_a1_12.out.cell 1 _ rfl
  have hk_a1_2_12 := K_a1_12.out.cell 2 _ rfl
  go_wp2
  go_region_held3 (fun w' => w'.cell? ⟨w7.heap.size, 0, none⟩ = some (.bool s1) ∧ w'.cell? ⟨w7.heap.size, 1, none⟩ = some (.slice A_x1 len1 c_x1) ∧ w'.cell? ⟨w7.heap.size, 2, none⟩ = some (.slice A_x1b len1b c_x1b) ∧ w'.cell? ⟨W.heap.size + 1, 0, none⟩ = some (.bool s1) ∧ w'.cell? ⟨W.heap.size + 1, 1, none⟩ = some (.slice a1 len1 cap1) ∧ w'.cell? ⟨W.heap.size + 1, 2, none⟩ = some (.slice a1b len1b cap1b)) (go_keep)
    (first
      | (go_at_call 17
         refine (toRat_any s1 a1 len1 cap1 z1 a1b len1b cap1b z1b _ (HA1.out.below HB_12.out.drew (Nat.le_refl _)) (HA1b.out.below HB_12.out.drew (Nat.le_refl _)) (by omega) (by omega)).mono ?_
         rintro e w11 ⟨v_tt1, v_tt1b, rfl, ho_tt1, ho_tt1b, ap01, ap10, hb⟩
         obtain ⟨A_tt1, c_tt1, hv⟩ := ho_tt1.shape
         rw [HZ1.out] at hv
         subst hv
         obtain ⟨A_tt1b, c_tt1b, hv⟩ := ho_tt1b.shape
         rw [HZ1b.out] at hv
         subst hv
         have AP_tt1_tt1b := Lib.hid ap01
         clear ap01
         have AP_tt1b_tt1 := Lib.hid ap10
         clear ap10
         have H_tt1_0 := Lib.hid (ho_tt1.based HB_12.out.drew.size)
         clear ho_tt1
         have H_tt1b_0 := Lib.hid (ho_tt1b.based HB_12.out.drew.size)
         clear ho_tt1b
         have K_a0_13 := Lib.hid (K_a0_12.out.drew.after hb)
         clear K_a0_12
         have K_a1_13 := Lib.hid (K_a1_12.out.drew.after hb)
         clear K_a1_12
         have K_x0_13 := Lib.hid (K_x0_12.out.drew.after hb)
         clear K_x0_12
         have K_x1_13 := Lib.hid (K_x1_12.out.drew.after hb)
         clear K_x1_12
         have H_x0_13 := Lib.hid (OwnV.below (w := w10.drew) H_x0_12.out hb)
         clear H_x0_12
         have H_x0b_13 := Lib.hid (OwnV.below (w := w10.drew) H_x0b_12.out hb)
         clear H_x0b_12
         have H_x1_13 := Lib.hid (OwnV.below (w := w10.drew) H_x1_12.out hb)
         clear H_x1_12
         have H_x1b_13 := Lib.hid (OwnV.below (w := w10.drew) H_x1b_12.out hb)
         clear H_x1b_12
         have HB_13 := Lib.hid (HB_12.out.drew.trans (hb.mono HB_12.out.drew.size))
         clear hb HB_12
         have hk_x1_0_13 := K_x1_13.out.cell 0 _ rfl
         have hk_x1_1_13 := K_x1_13.out.cell 1 _ rfl
         have hk_x1_2_13 := K_x1_13.out.cell 2 _ rfl
         have hk_a1_0_13 := K_a1_13.out.cell 0 _ rfl
         have hk_a1_1_13 := K_a1_13.out.cell 1 _ rfl
         have hk_a1_2_13 := K_a1_13.out.cell 2 _ rfl)
      | (go_at_call 19
         refine (eqRat_same s1 A_x1 A_tt1 len1 c_x1 c_tt1 z1 A_x1b A_tt1b len1b c_x1b c_tt1b z1b _ H_x1_13.out.row H_tt1_0.out.row H_x1b_13.out.row H_tt1b_0.out.row (by unfold maxLen; omega) (by unfold maxLen; omega)).mono ?_
         rintro e w12 ⟨rfl, hb⟩
         have K_a0_14 := Lib.hid (K_a0_13.out.after hb)
         clear K_a0_13
         have K_a1_14 := Lib.hid (K_a1_13.out.after hb)
         clear K_a1_13
         have K_x0_14 := Lib.hid (K_x0_13.out.after hb)
         clear K_x0_13
         have K_x1_14 := Lib.hid (K_x1_13.out.after hb)
         clear K_x1_13
         have H_x0_14 := Lib.hid (OwnV.below (w := w11) H_x0_13.out hb)
         clear H_x0_13
         have H_x0b_14 := Lib.hid (OwnV.below (w := w11) H_x0b_13.out hb)
         clear H_x0b_13
         have H_x1_14 := Lib.hid (OwnV.below (w := w11) H_x1_13.out hb)
         clear H_x1_13
         have H_x1b_14 := Lib.hid (OwnV.below (w := w11) H_x1b_13.out hb)
         clear H_x1b_13
         have H_tt1_14 := Lib.hid (OwnV.below (w := w11) H_tt1_0.out hb)
         clear H_tt1_0
         have H_tt1b_14 := Lib.hid (OwnV.below (w := w11) H_tt1b_0.out hb)
         clear H_tt1b_0
         have HB_14 := Lib.hid (HB_13.out.trans (hb.mono HB_13.out.size))
         clear hb HB_13
         have hk_x1_0_14 := K_x1_14.out.cell 0 _ rfl
         have hk_x1_1_14 := K_x1_14.out.cell 1 _ rfl
         have hk_x1_2_14 := K_x1_14.out.cell 2 _ rfl
         have hk_a1_0_14 := K_a1_14.out.cell 0 _ rfl
         have hk_a1_1_14 := K_a1_14.out.cell 1 _ rfl
         have hk_a1_2_14 := K_a1_14.out.cell 2 _ rfl))
  clear H_tt1_14
  clear H_tt1b_14
  go_wp2
  go_ret
  exact ⟨rfl, HB_14.out⟩

set_option maxRecDepth 100000 in
theorem lifted (os : Os) (started : os.Started) (H : Type) (enc : TypeId × Value → H) :
    ReturnsInHanded {} Try.checked os 7 .any (Rows.fnExactRatCmpSpec.pre6 enc Try.prog Try.f7 Rows.fnExactRatCmpRow.domain false) (Rows.fnExactRatCmpSpec.post enc Try.prog Try.f7 false true false false) := by
  refine returnsInHanded_of_change (C := Try.checked) own started (by kernel_rfl) Try.func7
    (ChangeSpec.witness6 (enc := enc) (C := Try.checked) false ⟨#[], #[.agg #[.bool false, .slice none 0 0, .slice none 0 0], .agg #[.bool false, .slice none 0 0, .slice none 0 0]], []⟩ 8 (by kernel_rfl) (by kernel_rfl) (by kernel_rfl) (by kernel_rfl)) ?_
  intro W base args ds gs before hval0 hW hcnd _
  have hval : ∀ (j : Nat) t v, Try.f7.params[j]? = some t → args[j]? = some v → Value.okWide Try.prog W .any base t v := hval0
  have hW' := hW
  obtain ⟨p, q, hA0, hV, rfl, hfz, hnd⟩ := hW
  have hA : DataW.TrodAll enc Try.prog W 0 (fun _ => true) true Try.f7.params.toList args.toList ds p := hA0
  rw [Try.params7] at hA hval
  obtain ⟨v0, vs0, d0, ds0, p0, q0, hargs, rfl, rfl, h0, r0⟩ := trodAll_cons hA
  obtain ⟨v1, vs1, d1, ds1, p1, q1, rfl, rfl, rfl, h1, r1⟩ := trodAll_cons r0
  obtain ⟨rfl, rfl, rfl⟩ := trodAll_nil r1
  obtain rfl : args = #[v0, v1] := by cases args; simp_all
  obtain ⟨rfl, rfl⟩ := trodVars_none hV
  have k0 := h0
  have lt0 : ∀ x ∈ p0, x.block < W.heap.size := by obtain ⟨m, hm⟩ := k0; exact DataW.trod_lt m _ _ _ hm
  obtain ⟨s0, a0, len0, cap0, z0, a0b, len0b, cap0b, z0b, rfl, w0, w0b⟩ := isRat_of Try.underlying26 Try.underlying24 (by kernel_rfl) (by kernel_rfl) (by kernel_rfl) (by kernel_rfl) (by kernel_rfl) (by kernel_rfl) Try.underlying4 Try.underlying22 Try.underlying22 Try.underlying3 (by kernel_rfl) (hval 0 26 v0 rfl rfl) h0
  have k1 := h1
  have lt1 : ∀ x ∈ p1, x.block < W.heap.size := by obtain ⟨m, hm⟩ := k1; exact DataW.trod_lt m _ _ _ hm
  obtain ⟨s1, a1, len1, cap1, z1, a1b, len1b, cap1b, z1b, rfl, w1, w1b⟩ := isRat_of Try.underlying26 Try.underlying24 (by kernel_rfl) (by kernel_rfl) (by kernel_rfl) (by kernel_rfl) (by kernel_rfl) (by kernel_rfl) Try.underlying4 Try.underlying22 Try.underlying22 Try.underlying3 (by kernel_rfl) (hval 1 26 v1 rfl rfl) h1
  clear hA0 hval0
  refine (walk W s0 a0 len0 cap0 z0 w0 a0b len0b cap0b z0b w0b s1 a1 len1 cap1 z1 w1 a1b len1b cap1b z1b w1b).mono fun e W' ⟨he, bel⟩ => ?_
  subst he
  exact ⟨_, rfl, _, _, _, [], _, [], hW', trodAll_mk1 (shut_bool Try.underlying4 _), (trodAll_cons_mk (Below.trod laidOut (by kernel_rfl) (of_decide_eq_true (by kernel_rfl)) k0 bel lt0) (trodAll_cons_mk (Below.trod laidOut (by kernel_rfl) (of_decide_eq_true (by kernel_rfl)) k1 bel lt1) trodAll_mk0)), rfl, bel.frame _, fun h => by cases h⟩

theorem over : Rows.fnExactRatCmpRow.holds Try.pinned (OpenSpec.ofChange Rows.fnExactRatCmpSpec) :=
  OpenClaim.holds_of_wide 7 Try.f7 rfl rfl rfl rfl rfl rfl rfl ⟨rfl, rfl, rfl, rfl, rfl⟩ rfl rfl rfl rfl rfl (by kernel_rfl) Try.func7 (by kernel_rfl)
    (of_decide_eq_true (by kernel_rfl)) (by unfold Func.isWrapper; first | (rw [if_pos (by decide +kernel)]; kernel_rfl) | (rw [if_neg (by decide +kernel)]; exact ⟨rfl, rfl⟩))
    (fun os started H enc _ => lifted os started H enc)

theorem proved : Rows.FnExactRatCmpSaid := over
#print axioms proved
end Go.Proofs.Ytbbjckihikhdhaa.lawRatCmp
