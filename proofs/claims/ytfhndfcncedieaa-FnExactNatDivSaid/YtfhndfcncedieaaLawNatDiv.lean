/- Proved: at all rows of integers, impl.NatDiv answers as its model spec.NatDiv in every result, writes into no argument, its answer owns its memory, the call returns true and changes no memory that was there. Conditions: none. -/
import Derived.Test.YtfhndfcncedieaaRows
import Derived.Test.YtfhndfcncedieaaHelpI
import Derived.Test.YtfhndfcncedieaaOpen
import Derived.Test.YtfhndfcncedieaaNatDiv
import Derived.WalkKit
import Derived.ProofKit
import Derived.OpenShut
import Derived.ShutString
import Derived.ChangeOld
import Derived.Below
namespace Go.Proofs.Ytfhndfcncedieaa.lawNatDiv
open Go.ChangeShapes Go.WideShapes Go.ChangeAt Go.RowKit
open Go.ChangeMaps (open_string shut_string)
set_option linter.unusedVariables false

theorem own : ownKnob Try.prog.godebug = none := by kernel_rfl
theorem laidOut : laidOutB Try.prog = true := by kernel_rfl
open Nt

set_option maxHeartbeats 1000000 in
theorem walk (W : World) (a0 : Option Addr) (len0 cap0 : Nat) (z0 : List Int) (w0 : IsInts .i64 W a0 len0 cap0 z0) (a1 : Option Addr) (len1 cap1 : Nat) (z1 : List Int) (w1 : IsInts .i64 W a1 len1 cap1 z1) :
    Calls Try.prog 10 #[.slice a0 len0 cap0, .slice a1 len1 cap1] W fun e w' => e = .returned (.bool true) ∧ Below W.heap.size W w' := by
  obtain ⟨hA0, hcap0, hcm0, hzs0⟩ := w0
  have hlm0 : len0 ≤ 9223372036854775807 := by unfold maxLen at hcm0; omega
  have HZ0 := Lib.hid (show (ints z0).length = len0 from hA0.1)
  have HA0 := Lib.hid (show VRow W a0 len0 (ints z0) from hA0)
  clear hA0 hzs0 hcm0
  obtain ⟨hA1, hcap1, hcm1, hzs1⟩ := w1
  have hlm1 : len1 ≤ 9223372036854775807 := by unfold maxLen at hcm1; omega
  have HZ1 := Lib.hid (show (ints z1).length = len1 from hA1.1)
  have HA1 := Lib.hid (show VRow W a1 len1 (ints z1) from hA1)
  clear hA1 hzs1 hcm1
  by_cases hs0 : 1048576 < len0
  · go_enter Try.func10, Try.ntmps10
    go_wp2
    go_ret
    exact ⟨rfl, Below.refl _ _⟩
  by_cases hs1 : 1048576 < len1
  · go_enter Try.func10, Try.ntmps10
    go_wp2
    go_ret
    exact ⟨rfl, Below.refl _ _⟩
  obtain ⟨R0, hR0⟩ : ∃ R : List Int, nats (quoN z0 z1) = ints R := ⟨_, rfl⟩
  have hN0 : R0.length ≤ 1048576 := by have h : (nats (quoN z0 z1)).length ≤ 1048576 := (by rw [nats_len]; exact Nat.le_trans (quoN_len z0 z1) (by omega)); rw [hR0, ints_len] at h; exact h
  obtain ⟨n0, hn0⟩ : ∃ n, R0.length = n := ⟨_, rfl⟩
  rw [hn0] at hN0
  have HN0 := Lib.hid (show (ints R0).length = n0 by rw [ints_len]; exact hn0)
  have HR0 := Lib.hid hR0
  clear hR0 hn0
  obtain ⟨R1, hR1⟩ : ∃ R : List Int, nats (remN z0 z1) = ints R := ⟨_, rfl⟩
  have hN1 : R1.length ≤ 1048576 := by have h : (nats (remN z0 z1)).length ≤ 1048576 := (by rw [nats_len]; exact Nat.le_trans (remN_len z0 z1) (by omega)); rw [hR1, ints_len] at h; exact h
  obtain ⟨n1, hn1⟩ : ∃ n, R1.length = n := ⟨_, rfl⟩
  rw [hn1] at hN1
  have HN1 := Lib.hid (show (ints R1).length = n1 by rw [ints_len]; exact hn1)
  have HR1 := Lib.hid hR1
  clear hR1 hn1
  have HB0 := Lib.hid (Below.refl W.heap.size W)
  go_enter Try.func10, Try.ntmps10
  go_wp2_with fail
  refine (toIntS_any a0 len0 cap0 z0 _ (HA0.out.below HB0.out (Nat.le_refl _)) (by omega)).mono ?_
  rintro e w1 ⟨v1_0, rfl, ho1_0, hb1⟩
  obtain ⟨A_t0, c_t0, hv⟩ := ho1_0.shape
  rw [HZ0.out] at hv
  subst hv
  have H_t0_1 := Lib.hid (ho1_0.based HB0.out.size)
  clear ho1_0
  have HB1 := Lib.hid (HB0.out.trans (hb1.mono HB0.out.size))
  clear hb1
  go_wp2_with fail
  refine (toIntS_any a1 len1 cap1 z1 _ (HA1.out.below HB1.out (Nat.le_refl _)) (by omega)).mono ?_
  rintro e w2 ⟨v2_0, rfl, ho2_0, hb2⟩
  obtain ⟨A_t1, c_t1, hv⟩ := ho2_0.shape
  rw [HZ1.out] at hv
  subst hv
  have H_t0_2 := Lib.hid (H_t0_1.out.below hb2)
  clear H_t0_1
  have H_t1_2 := Lib.hid (ho2_0.based HB1.out.size)
  clear ho2_0
  have HB2 := Lib.hid (HB1.out.trans (hb2.mono HB1.out.size))
  clear hb2
  go_wp2_with fail
  refine (natDiv_spec A_t0 A_t1 len0 c_t0 len1 c_t1 z0 z1 _ H_t0_2.out.row H_t1_2.out.row (by unfold maxLen; omega) (by unfold maxLen; omega)).mono ?_
  rintro e w3 ⟨v3_0, v3_1, rfl, ho3_0, ho3_1, ap3_0, ap3_1, hb3⟩
  rw [HR0.out] at ho3_0
  obtain ⟨A_w0, c_w0, hv⟩ := ho3_0.shape
  rw [HN0.out] at hv
  subst hv
  have AP_t0_w0 := Lib.hid (OwnV.apart H_t0_2.out ho3_0 (Nat.le_refl _))
  have AP_w0_t0 := Lib.hid (OwnV.apart' ho3_0 H_t0_2.out (Nat.le_refl _))
  have AP_t1_w0 := Lib.hid (OwnV.apart H_t1_2.out ho3_0 (Nat.le_refl _))
  have AP_w0_t1 := Lib.hid (OwnV.apart' ho3_0 H_t1_2.out (Nat.le_refl _))
  rw [HR1.out] at ho3_1
  obtain ⟨A_w1, c_w1, hv⟩ := ho3_1.shape
  rw [HN1.out] at hv
  subst hv
  have AP_t0_w1 := Lib.hid (OwnV.apart H_t0_2.out ho3_1 (Nat.le_refl _))
  have AP_w1_t0 := Lib.hid (OwnV.apart' ho3_1 H_t0_2.out (Nat.le_refl _))
  have AP_t1_w1 := Lib.hid (OwnV.apart H_t1_2.out ho3_1 (Nat.le_refl _))
  have AP_w1_t1 := Lib.hid (OwnV.apart' ho3_1 H_t1_2.out (Nat.le_refl _))
  have AP_w0_w1 := Lib.hid ap3_0
  have AP_w1_w0 := Lib.hid ap3_1
  clear ap3_0 ap3_1
  have H_t0_3 := Lib.hid (H_t0_2.out.below hb3)
  clear H_t0_2
  have H_t1_3 := Lib.hid (H_t1_2.out.below hb3)
  clear H_t1_2
  have H_w0_3 := Lib.hid (ho3_0.based HB2.out.size)
  clear ho3_0
  have H_w1_3 := Lib.hid (ho3_1.based HB2.out.size)
  clear ho3_1
  have HB3 := Lib.hid (HB2.out.trans (hb3.mono HB2.out.size))
  clear hb3
  go_wp2_with fail
  clear H_t0_3
  clear H_t1_3
  refine (toIntS_any a0 len0 cap0 z0 _ (HA0.out.below HB3.out (Nat.le_refl _)) (by omega)).mono ?_
  rintro e w4 ⟨v4_0, rfl, ho4_0, hb4⟩
  obtain ⟨A_x0, c_x0, hv⟩ := ho4_0.shape
  rw [HZ0.out] at hv
  subst hv
  have AP_w0_x0 := Lib.hid (OwnV.apart H_w0_3.out ho4_0 (Nat.le_refl _))
  have AP_x0_w0 := Lib.hid (OwnV.apart' ho4_0 H_w0_3.out (Nat.le_refl _))
  have AP_w1_x0 := Lib.hid (OwnV.apart H_w1_3.out ho4_0 (Nat.le_refl _))
  have AP_x0_w1 := Lib.hid (OwnV.apart' ho4_0 H_w1_3.out (Nat.le_refl _))
  have H_w0_4 := Lib.hid (H_w0_3.out.below hb4)
  clear H_w0_3
  have H_w1_4 := Lib.hid (H_w1_3.out.below hb4)
  clear H_w1_3
  have H_x0_4 := Lib.hid (ho4_0.based HB3.out.size)
  clear ho4_0
  have HB4 := Lib.hid (HB3.out.trans (hb4.mono HB3.out.size))
  clear hb4
  go_wp2_with fail
  refine (toIntS_any a1 len1 cap1 z1 _ (HA1.out.below HB4.out (Nat.le_refl _)) (by omega)).mono ?_
  rintro e w5 ⟨v5_0, rfl, ho5_0, hb5⟩
  obtain ⟨A_x1, c_x1, hv⟩ := ho5_0.shape
  rw [HZ1.out] at hv
  subst hv
  have AP_w0_x1 := Lib.hid (OwnV.apart H_w0_4.out ho5_0 (Nat.le_refl _))
  have AP_x1_w0 := Lib.hid (OwnV.apart' ho5_0 H_w0_4.out (Nat.le_refl _))
  have AP_w1_x1 := Lib.hid (OwnV.apart H_w1_4.out ho5_0 (Nat.le_refl _))
  have AP_x1_w1 := Lib.hid (OwnV.apart' ho5_0 H_w1_4.out (Nat.le_refl _))
  have AP_x0_x1 := Lib.hid (OwnV.apart H_x0_4.out ho5_0 (Nat.le_refl _))
  have AP_x1_x0 := Lib.hid (OwnV.apart' ho5_0 H_x0_4.out (Nat.le_refl _))
  have H_w0_5 := Lib.hid (H_w0_4.out.below hb5)
  clear H_w0_4
  have H_w1_5 := Lib.hid (H_w1_4.out.below hb5)
  clear H_w1_4
  have H_x0_5 := Lib.hid (H_x0_4.out.below hb5)
  clear H_x0_4
  have H_x1_5 := Lib.hid (ho5_0.based HB4.out.size)
  clear ho5_0
  have HB5 := Lib.hid (HB4.out.trans (hb5.mono HB4.out.size))
  clear hb5
  go_wp2_with fail
  refine (natDiv_impl A_x0 A_x1 len0 c_x0 len1 c_x1 z0 z1 _ H_x0_5.out.row H_x1_5.out.row (by unfold maxLen; omega) (by unfold maxLen; omega)).mono ?_
  rintro e w6 ⟨v6_0, v6_1, rfl, ho6_0, ho6_1, ap6_0, ap6_1, hb6⟩
  rw [HR0.out] at ho6_0
  obtain ⟨A_g0, c_g0, hv⟩ := ho6_0.shape
  rw [HN0.out] at hv
  subst hv
  have AP_w0_g0 := Lib.hid (OwnV.apart H_w0_5.out ho6_0 (Nat.le_refl _))
  have AP_g0_w0 := Lib.hid (OwnV.apart' ho6_0 H_w0_5.out (Nat.le_refl _))
  have AP_w1_g0 := Lib.hid (OwnV.apart H_w1_5.out ho6_0 (Nat.le_refl _))
  have AP_g0_w1 := Lib.hid (OwnV.apart' ho6_0 H_w1_5.out (Nat.le_refl _))
  have AP_x0_g0 := Lib.hid (OwnV.apart H_x0_5.out ho6_0 (Nat.le_refl _))
  have AP_g0_x0 := Lib.hid (OwnV.apart' ho6_0 H_x0_5.out (Nat.le_refl _))
  have AP_x1_g0 := Lib.hid (OwnV.apart H_x1_5.out ho6_0 (Nat.le_refl _))
  have AP_g0_x1 := Lib.hid (OwnV.apart' ho6_0 H_x1_5.out (Nat.le_refl _))
  rw [HR1.out] at ho6_1
  obtain ⟨A_g1, c_g1, hv⟩ := ho6_1.shape
  rw [HN1.out] at hv
  subst hv
  have AP_w0_g1 := Lib.hid (OwnV.apart H_w0_5.out ho6_1 (Nat.le_refl _))
  have AP_g1_w0 := Lib.hid (OwnV.apart' ho6_1 H_w0_5.out (Nat.le_refl _))
  have AP_w1_g1 := Lib.hid (OwnV.apart H_w1_5.out ho6_1 (Nat.le_refl _))
  have AP_g1_w1 := Lib.hid (OwnV.apart' ho6_1 H_w1_5.out (Nat.le_refl _))
  have AP_x0_g1 := Lib.hid (OwnV.apart H_x0_5.out ho6_1 (Nat.le_refl _))
  have AP_g1_x0 := Lib.hid (OwnV.apart' ho6_1 H_x0_5.out (Nat.le_refl _))
  have AP_x1_g1 := Lib.hid (OwnV.apart H_x1_5.out ho6_1 (Nat.le_refl _))
  have AP_g1_x1 := Lib.hid (OwnV.apart' ho6_1 H_x1_5.out (Nat.le_refl _))
  have AP_g0_g1 := Lib.hid ap6_0
  have AP_g1_g0 := Lib.hid ap6_1
  clear ap6_0 ap6_1
  have H_w0_6 := Lib.hid (H_w0_5.out.below hb6)
  clear H_w0_5
  have H_w1_6 := Lib.hid (H_w1_5.out.below hb6)
  clear H_w1_5
  have H_x0_6 := Lib.hid (H_x0_5.out.below hb6)
  clear H_x0_5
  have H_x1_6 := Lib.hid (H_x1_5.out.below hb6)
  clear H_x1_5
  have H_g0_6 := Lib.hid (ho6_0.based HB5.out.size)
  clear ho6_0
  have H_g1_6 := Lib.hid (ho6_1.based HB5.out.size)
  clear ho6_1
  have HB6 := Lib.hid (HB5.out.trans (hb6.mono HB5.out.size))
  clear hb6
  go_wp2_with fail
  refine (eqIntS_same A_g0 A_w0 n0 c_g0 c_w0 R0 _ H_g0_6.out.row H_w0_6.out.row (by unfold maxLen; omega)).mono ?_
  rintro e w7 ⟨rfl, hb7⟩
  have H_w0_7 := Lib.hid (H_w0_6.out.below hb7)
  clear H_w0_6
  have H_w1_7 := Lib.hid (H_w1_6.out.below hb7)
  clear H_w1_6
  have H_x0_7 := Lib.hid (H_x0_6.out.below hb7)
  clear H_x0_6
  have H_x1_7 := Lib.hid (H_x1_6.out.below hb7)
  clear H_x1_6
  have H_g0_7 := Lib.hid (H_g0_6.out.below hb7)
  clear H_g0_6
  have H_g1_7 := Lib.hid (H_g1_6.out.below hb7)
  clear H_g1_6
  have HB7 := Lib.hid (HB6.out.trans (hb7.mono HB6.out.size))
  clear hb7
  go_wp2_with fail
  refine (eqIntS_same A_g1 A_w1 n1 c_g1 c_w1 R1 _ H_g1_7.out.row H_w1_7.out.row (by unfold maxLen; omega)).mono ?_
  rintro e w8 ⟨rfl, hb8⟩
  have H_w0_8 := Lib.hid (H_w0_7.out.below hb8)
  clear H_w0_7
  have H_w1_8 := Lib.hid (H_w1_7.out.below hb8)
  clear H_w1_7
  have H_x0_8 := Lib.hid (H_x0_7.out.below hb8)
  clear H_x0_7
  have H_x1_8 := Lib.hid (H_x1_7.out.below hb8)
  clear H_x1_7
  have H_g0_8 := Lib.hid (H_g0_7.out.below hb8)
  clear H_g0_7
  have H_g1_8 := Lib.hid (H_g1_7.out.below hb8)
  clear H_g1_7
  have HB8 := Lib.hid (HB7.out.trans (hb8.mono HB7.out.size))
  clear hb8
  go_wp2_with fail
  refine (toIntS_any a0 len0 cap0 z0 _ (HA0.out.below HB8.out (Nat.le_refl _)) (by omega)).mono ?_
  rintro e w9 ⟨v9_0, rfl, ho9_0, hb9⟩
  obtain ⟨A_tt0, c_tt0, hv⟩ := ho9_0.shape
  rw [HZ0.out] at hv
  subst hv
  have H_w0_9 := Lib.hid (H_w0_8.out.below hb9)
  clear H_w0_8
  have H_w1_9 := Lib.hid (H_w1_8.out.below hb9)
  clear H_w1_8
  have H_x0_9 := Lib.hid (H_x0_8.out.below hb9)
  clear H_x0_8
  have H_x1_9 := Lib.hid (H_x1_8.out.below hb9)
  clear H_x1_8
  have H_g0_9 := Lib.hid (H_g0_8.out.below hb9)
  clear H_g0_8
  have H_g1_9 := Lib.hid (H_g1_8.out.below hb9)
  clear H_g1_8
  have H_tt0_9 := Lib.hid (ho9_0.based HB8.out.size)
  clear ho9_0
  have HB9 := Lib.hid (HB8.out.trans (hb9.mono HB8.out.size))
  clear hb9
  go_wp2_with fail
  refine (eqIntS_same A_x0 A_tt0 len0 c_x0 c_tt0 z0 _ H_x0_9.out.row H_tt0_9.out.row (by unfold maxLen; omega)).mono ?_
  rintro e w10 ⟨rfl, hb10⟩
  have H_w0_10 := Lib.hid (H_w0_9.out.below hb10)
  clear H_w0_9
  have H_w1_10 := Lib.hid (H_w1_9.out.below hb10)
  clear H_w1_9
  have H_x0_10 := Lib.hid (H_x0_9.out.below hb10)
  clear H_x0_9
  have H_x1_10 := Lib.hid (H_x1_9.out.below hb10)
  clear H_x1_9
  have H_g0_10 := Lib.hid (H_g0_9.out.below hb10)
  clear H_g0_9
  have H_g1_10 := Lib.hid (H_g1_9.out.below hb10)
  clear H_g1_9
  have H_tt0_10 := Lib.hid (H_tt0_9.out.below hb10)
  clear H_tt0_9
  have HB10 := Lib.hid (HB9.out.trans (hb10.mono HB9.out.size))
  clear hb10
  go_wp2_with fail
  clear H_tt0_10
  refine (toIntS_any a1 len1 cap1 z1 _ (HA1.out.below HB10.out (Nat.le_refl _)) (by omega)).mono ?_
  rintro e w11 ⟨v11_0, rfl, ho11_0, hb11⟩
  obtain ⟨A_tt1, c_tt1, hv⟩ := ho11_0.shape
  rw [HZ1.out] at hv
  subst hv
  have H_w0_11 := Lib.hid (H_w0_10.out.below hb11)
  clear H_w0_10
  have H_w1_11 := Lib.hid (H_w1_10.out.below hb11)
  clear H_w1_10
  have H_x0_11 := Lib.hid (H_x0_10.out.below hb11)
  clear H_x0_10
  have H_x1_11 := Lib.hid (H_x1_10.out.below hb11)
  clear H_x1_10
  have H_g0_11 := Lib.hid (H_g0_10.out.below hb11)
  clear H_g0_10
  have H_g1_11 := Lib.hid (H_g1_10.out.below hb11)
  clear H_g1_10
  have H_tt1_11 := Lib.hid (ho11_0.based HB10.out.size)
  clear ho11_0
  have HB11 := Lib.hid (HB10.out.trans (hb11.mono HB10.out.size))
  clear hb11
  go_wp2_with fail
  refine (eqIntS_same A_x1 A_tt1 len1 c_x1 c_tt1 z1 _ H_x1_11.out.row H_tt1_11.out.row (by unfold maxLen; omega)).mono ?_
  rintro e w12 ⟨rfl, hb12⟩
  have H_w0_12 := Lib.hid (H_w0_11.out.below hb12)
  clear H_w0_11
  have H_w1_12 := Lib.hid (H_w1_11.out.below hb12)
  clear H_w1_11
  have H_x0_12 := Lib.hid (H_x0_11.out.below hb12)
  clear H_x0_11
  have H_x1_12 := Lib.hid (H_x1_11.out.below hb12)
  clear H_x1_11
  have H_g0_12 := Lib.hid (H_g0_11.out.below hb12)
  clear H_g0_11
  have H_g1_12 := Lib.hid (H_g1_11.out.below hb12)
  clear H_g1_11
  have H_tt1_12 := Lib.hid (H_tt1_11.out.below hb12)
  clear H_tt1_11
  have HB12 := Lib.hid (HB11.out.trans (hb12.mono HB11.out.size))
  clear hb12
  go_wp2_with fail
  clear H_tt1_12
  refine (markIntS_at A_x0 len0 c_x0 (1) W.heap.size _ (by first | rfl | omega) _ _ H_x0_12.out (by omega)).mono ?_
  rintro e w13 ⟨rfl, ho13, hg13⟩
  have HB13 := Lib.hid (HB12.out.grown hg13 HB12.out.size (fun k hk => (H_x0_12.out.lt k hk).1))
  have H_w0_13 := Lib.hid (H_w0_12.out.kept hg13 AP_w0_x0.out)
  clear H_w0_12
  have H_w1_13 := Lib.hid (H_w1_12.out.kept hg13 AP_w1_x0.out)
  clear H_w1_12
  have H_x1_13 := Lib.hid (H_x1_12.out.kept hg13 AP_x1_x0.out)
  clear H_x1_12
  have H_g0_13 := Lib.hid (H_g0_12.out.kept hg13 AP_g0_x0.out)
  clear H_g0_12
  have H_g1_13 := Lib.hid (H_g1_12.out.kept hg13 AP_g1_x0.out)
  clear H_g1_12
  clear H_x0_12
  have H_x0_13 := Lib.hid ho13
  clear ho13 hg13
  go_wp2_with fail
  refine (markIntS_at A_x1 len1 c_x1 (1 + len0) W.heap.size _ (by first | rfl | omega) _ _ H_x1_13.out (by omega)).mono ?_
  rintro e w14 ⟨rfl, ho14, hg14⟩
  have HB14 := Lib.hid (HB13.out.grown hg14 HB13.out.size (fun k hk => (H_x1_13.out.lt k hk).1))
  have H_w0_14 := Lib.hid (H_w0_13.out.kept hg14 AP_w0_x1.out)
  clear H_w0_13
  have H_w1_14 := Lib.hid (H_w1_13.out.kept hg14 AP_w1_x1.out)
  clear H_w1_13
  have H_g0_14 := Lib.hid (H_g0_13.out.kept hg14 AP_g0_x1.out)
  clear H_g0_13
  have H_g1_14 := Lib.hid (H_g1_13.out.kept hg14 AP_g1_x1.out)
  clear H_g1_13
  have H_x0_14 := Lib.hid (H_x0_13.out.kept hg14 AP_x0_x1.out)
  clear H_x0_13
  clear H_x1_13
  have H_x1_14 := Lib.hid ho14
  clear ho14 hg14
  go_wp2_with fail
  clear H_x0_14
  clear H_x1_14
  refine (eqIntS_same A_g0 A_w0 n0 c_g0 c_w0 R0 _ H_g0_14.out.row H_w0_14.out.row (by unfold maxLen; omega)).mono ?_
  rintro e w15 ⟨rfl, hb15⟩
  have H_w0_15 := Lib.hid (H_w0_14.out.below hb15)
  clear H_w0_14
  have H_w1_15 := Lib.hid (H_w1_14.out.below hb15)
  clear H_w1_14
  have H_g0_15 := Lib.hid (H_g0_14.out.below hb15)
  clear H_g0_14
  have H_g1_15 := Lib.hid (H_g1_14.out.below hb15)
  clear H_g1_14
  have HB15 := Lib.hid (HB14.out.trans (hb15.mono HB14.out.size))
  clear hb15
  go_wp2_with fail
  refine (eqIntS_same A_g1 A_w1 n1 c_g1 c_w1 R1 _ H_g1_15.out.row H_w1_15.out.row (by unfold maxLen; omega)).mono ?_
  rintro e w16 ⟨rfl, hb16⟩
  have H_w0_16 := Lib.hid (H_w0_15.out.below hb16)
  clear H_w0_15
  have H_w1_16 := Lib.hid (H_w1_15.out.below hb16)
  clear H_w1_15
  have H_g0_16 := Lib.hid (H_g0_15.out.below hb16)
  clear H_g0_15
  have H_g1_16 := Lib.hid (H_g1_15.out.below hb16)
  clear H_g1_15
  have HB16 := Lib.hid (HB15.out.trans (hb16.mono HB15.out.size))
  clear hb16
  go_wp2_with fail
  refine (markIntS_at A_g0 n0 c_g0 (1) W.heap.size _ (by first | rfl | omega) _ _ H_g0_16.out (by omega)).mono ?_
  rintro e w17 ⟨rfl, ho17, hg17⟩
  have HB17 := Lib.hid (HB16.out.grown hg17 HB16.out.size (fun k hk => (H_g0_16.out.lt k hk).1))
  have H_w0_17 := Lib.hid (H_w0_16.out.kept hg17 AP_w0_g0.out)
  clear H_w0_16
  have H_w1_17 := Lib.hid (H_w1_16.out.kept hg17 AP_w1_g0.out)
  clear H_w1_16
  have H_g1_17 := Lib.hid (H_g1_16.out.kept hg17 AP_g1_g0.out)
  clear H_g1_16
  clear H_g0_16
  have H_g0_17 := Lib.hid ho17
  clear ho17 hg17
  go_wp2_with fail
  refine (markIntS_at A_g1 n1 c_g1 (1 + n0) W.heap.size _ (by first | rfl | omega) _ _ H_g1_17.out (by omega)).mono ?_
  rintro e w18 ⟨rfl, ho18, hg18⟩
  have HB18 := Lib.hid (HB17.out.grown hg18 HB17.out.size (fun k hk => (H_g1_17.out.lt k hk).1))
  have H_w0_18 := Lib.hid (H_w0_17.out.kept hg18 AP_w0_g1.out)
  clear H_w0_17
  have H_w1_18 := Lib.hid (H_w1_17.out.kept hg18 AP_w1_g1.out)
  clear H_w1_17
  have H_g0_18 := Lib.hid (H_g0_17.out.kept hg18 AP_g0_g1.out)
  clear H_g0_17
  clear H_g1_17
  have H_g1_18 := Lib.hid ho18
  clear ho18 hg18
  go_wp2_with fail
  refine (heldIntS_at A_g0 n0 c_g0 (1) _ (by first | rfl | omega) _ H_g0_18.out.row (by omega)).mono ?_
  rintro e w19 ⟨rfl, hb19⟩
  have H_w0_19 := Lib.hid (H_w0_18.out.below hb19)
  clear H_w0_18
  have H_w1_19 := Lib.hid (H_w1_18.out.below hb19)
  clear H_w1_18
  have H_g0_19 := Lib.hid (H_g0_18.out.below hb19)
  clear H_g0_18
  have H_g1_19 := Lib.hid (H_g1_18.out.below hb19)
  clear H_g1_18
  have HB19 := Lib.hid (HB18.out.trans (hb19.mono HB18.out.size))
  clear hb19
  go_wp2_with fail
  refine (heldIntS_at A_g1 n1 c_g1 (1 + n0) _ (by first | rfl | omega) _ H_g1_19.out.row (by omega)).mono ?_
  rintro e w20 ⟨rfl, hb20⟩
  have H_w0_20 := Lib.hid (H_w0_19.out.below hb20)
  clear H_w0_19
  have H_w1_20 := Lib.hid (H_w1_19.out.below hb20)
  clear H_w1_19
  have H_g0_20 := Lib.hid (H_g0_19.out.below hb20)
  clear H_g0_19
  have H_g1_20 := Lib.hid (H_g1_19.out.below hb20)
  clear H_g1_19
  have HB20 := Lib.hid (HB19.out.trans (hb20.mono HB19.out.size))
  clear hb20
  go_wp2_with fail
  refine (toIntS_any a0 len0 cap0 z0 _ (HA0.out.below HB20.out (Nat.le_refl _)) (by omega)).mono ?_
  rintro e w21 ⟨v21_0, rfl, ho21_0, hb21⟩
  obtain ⟨A_ts0, c_ts0, hv⟩ := ho21_0.shape
  rw [HZ0.out] at hv
  subst hv
  have H_w0_21 := Lib.hid (H_w0_20.out.below hb21)
  clear H_w0_20
  have H_w1_21 := Lib.hid (H_w1_20.out.below hb21)
  clear H_w1_20
  have H_g0_21 := Lib.hid (H_g0_20.out.below hb21)
  clear H_g0_20
  have H_g1_21 := Lib.hid (H_g1_20.out.below hb21)
  clear H_g1_20
  have H_ts0_21 := Lib.hid (ho21_0.based HB20.out.size)
  clear ho21_0
  have HB21 := Lib.hid (HB20.out.trans (hb21.mono HB20.out.size))
  clear hb21
  go_wp2_with fail
  refine (toIntS_any a1 len1 cap1 z1 _ (HA1.out.below HB21.out (Nat.le_refl _)) (by omega)).mono ?_
  rintro e w22 ⟨v22_0, rfl, ho22_0, hb22⟩
  obtain ⟨A_ts1, c_ts1, hv⟩ := ho22_0.shape
  rw [HZ1.out] at hv
  subst hv
  have H_w0_22 := Lib.hid (H_w0_21.out.below hb22)
  clear H_w0_21
  have H_w1_22 := Lib.hid (H_w1_21.out.below hb22)
  clear H_w1_21
  have H_g0_22 := Lib.hid (H_g0_21.out.below hb22)
  clear H_g0_21
  have H_g1_22 := Lib.hid (H_g1_21.out.below hb22)
  clear H_g1_21
  have H_ts0_22 := Lib.hid (H_ts0_21.out.below hb22)
  clear H_ts0_21
  have H_ts1_22 := Lib.hid (ho22_0.based HB21.out.size)
  clear ho22_0
  have HB22 := Lib.hid (HB21.out.trans (hb22.mono HB21.out.size))
  clear hb22
  go_wp2_with fail
  refine (natDiv_impl A_ts0 A_ts1 len0 c_ts0 len1 c_ts1 z0 z1 _ H_ts0_22.out.row H_ts1_22.out.row (by unfold maxLen; omega) (by unfold maxLen; omega)).mono ?_
  rintro e w23 ⟨v23_0, v23_1, rfl, ho23_0, ho23_1, ap23_0, ap23_1, hb23⟩
  rw [HR0.out] at ho23_0
  obtain ⟨A_tr0, c_tr0, hv⟩ := ho23_0.shape
  rw [HN0.out] at hv
  subst hv
  rw [HR1.out] at ho23_1
  obtain ⟨A_tr1, c_tr1, hv⟩ := ho23_1.shape
  rw [HN1.out] at hv
  subst hv
  clear ap23_0 ap23_1
  have H_w0_23 := Lib.hid (H_w0_22.out.below hb23)
  clear H_w0_22
  have H_w1_23 := Lib.hid (H_w1_22.out.below hb23)
  clear H_w1_22
  have H_g0_23 := Lib.hid (H_g0_22.out.below hb23)
  clear H_g0_22
  have H_g1_23 := Lib.hid (H_g1_22.out.below hb23)
  clear H_g1_22
  have H_ts0_23 := Lib.hid (H_ts0_22.out.below hb23)
  clear H_ts0_22
  have H_ts1_23 := Lib.hid (H_ts1_22.out.below hb23)
  clear H_ts1_22
  have H_tr0_23 := Lib.hid (ho23_0.based HB22.out.size)
  clear ho23_0
  have H_tr1_23 := Lib.hid (ho23_1.based HB22.out.size)
  clear ho23_1
  have HB23 := Lib.hid (HB22.out.trans (hb23.mono HB22.out.size))
  clear hb23
  go_wp2_with fail
  refine (eqIntS_same A_tr0 A_w0 n0 c_tr0 c_w0 R0 _ H_tr0_23.out.row H_w0_23.out.row (by unfold maxLen; omega)).mono ?_
  rintro e w24 ⟨rfl, hb24⟩
  have H_w0_24 := Lib.hid (H_w0_23.out.below hb24)
  clear H_w0_23
  have H_w1_24 := Lib.hid (H_w1_23.out.below hb24)
  clear H_w1_23
  have H_g0_24 := Lib.hid (H_g0_23.out.below hb24)
  clear H_g0_23
  have H_g1_24 := Lib.hid (H_g1_23.out.below hb24)
  clear H_g1_23
  have H_ts0_24 := Lib.hid (H_ts0_23.out.below hb24)
  clear H_ts0_23
  have H_ts1_24 := Lib.hid (H_ts1_23.out.below hb24)
  clear H_ts1_23
  have H_tr0_24 := Lib.hid (H_tr0_23.out.below hb24)
  clear H_tr0_23
  have H_tr1_24 := Lib.hid (H_tr1_23.out.below hb24)
  clear H_tr1_23
  have HB24 := Lib.hid (HB23.out.trans (hb24.mono HB23.out.size))
  clear hb24
  go_wp2_with fail
  refine (eqIntS_same A_tr1 A_w1 n1 c_tr1 c_w1 R1 _ H_tr1_24.out.row H_w1_24.out.row (by unfold maxLen; omega)).mono ?_
  rintro e w25 ⟨rfl, hb25⟩
  have H_w0_25 := Lib.hid (H_w0_24.out.below hb25)
  clear H_w0_24
  have H_w1_25 := Lib.hid (H_w1_24.out.below hb25)
  clear H_w1_24
  have H_g0_25 := Lib.hid (H_g0_24.out.below hb25)
  clear H_g0_24
  have H_g1_25 := Lib.hid (H_g1_24.out.below hb25)
  clear H_g1_24
  have H_ts0_25 := Lib.hid (H_ts0_24.out.below hb25)
  clear H_ts0_24
  have H_ts1_25 := Lib.hid (H_ts1_24.out.below hb25)
  clear H_ts1_24
  have H_tr0_25 := Lib.hid (H_tr0_24.out.below hb25)
  clear H_tr0_24
  have H_tr1_25 := Lib.hid (H_tr1_24.out.below hb25)
  clear H_tr1_24
  have HB25 := Lib.hid (HB24.out.trans (hb25.mono HB24.out.size))
  clear hb25
  go_wp2_with fail
  refine (heldIntS_at A_g0 n0 c_g0 (1) _ (by first | rfl | omega) _ H_g0_25.out.row (by omega)).mono ?_
  rintro e w26 ⟨rfl, hb26⟩
  have H_w0_26 := Lib.hid (H_w0_25.out.below hb26)
  clear H_w0_25
  have H_w1_26 := Lib.hid (H_w1_25.out.below hb26)
  clear H_w1_25
  have H_g0_26 := Lib.hid (H_g0_25.out.below hb26)
  clear H_g0_25
  have H_g1_26 := Lib.hid (H_g1_25.out.below hb26)
  clear H_g1_25
  have H_ts0_26 := Lib.hid (H_ts0_25.out.below hb26)
  clear H_ts0_25
  have H_ts1_26 := Lib.hid (H_ts1_25.out.below hb26)
  clear H_ts1_25
  have H_tr0_26 := Lib.hid (H_tr0_25.out.below hb26)
  clear H_tr0_25
  have H_tr1_26 := Lib.hid (H_tr1_25.out.below hb26)
  clear H_tr1_25
  have HB26 := Lib.hid (HB25.out.trans (hb26.mono HB25.out.size))
  clear hb26
  go_wp2_with fail
  refine (heldIntS_at A_g1 n1 c_g1 (1 + n0) _ (by first | rfl | omega) _ H_g1_26.out.row (by omega)).mono ?_
  rintro e w27 ⟨rfl, hb27⟩
  have H_w0_27 := Lib.hid (H_w0_26.out.below hb27)
  clear H_w0_26
  have H_w1_27 := Lib.hid (H_w1_26.out.below hb27)
  clear H_w1_26
  have H_g0_27 := Lib.hid (H_g0_26.out.below hb27)
  clear H_g0_26
  have H_g1_27 := Lib.hid (H_g1_26.out.below hb27)
  clear H_g1_26
  have H_ts0_27 := Lib.hid (H_ts0_26.out.below hb27)
  clear H_ts0_26
  have H_ts1_27 := Lib.hid (H_ts1_26.out.below hb27)
  clear H_ts1_26
  have H_tr0_27 := Lib.hid (H_tr0_26.out.below hb27)
  clear H_tr0_26
  have H_tr1_27 := Lib.hid (H_tr1_26.out.below hb27)
  clear H_tr1_26
  have HB27 := Lib.hid (HB26.out.trans (hb27.mono HB26.out.size))
  clear hb27
  go_wp2
  go_ret
  exact ⟨rfl, HB27.out⟩

set_option maxRecDepth 100000 in
theorem lifted (os : Os) (started : os.Started) (H : Type) (enc : TypeId × Value → H) :
    ReturnsInHanded {} Try.checked os 10 .any (Rows.fnExactNatDivSpec.pre6 enc Try.prog Try.f10 Rows.fnExactNatDivRow.domain false) (Rows.fnExactNatDivSpec.post enc Try.prog Try.f10 false true false false) := by
  refine returnsInHanded_of_change (C := Try.checked) own started (by kernel_rfl) Try.func10
    (ChangeSpec.witness6 (enc := enc) (C := Try.checked) false ⟨#[], #[.slice none 0 0, .slice none 0 0], []⟩ 8 (by kernel_rfl) (by kernel_rfl) (by kernel_rfl) (by kernel_rfl)) ?_
  intro W base args ds gs before hval0 hW hcnd _
  have hval : ∀ (j : Nat) t v, Try.f10.params[j]? = some t → args[j]? = some v → Value.okWide Try.prog W .any base t v := hval0
  have hW' := hW
  obtain ⟨p, q, hA0, hV, rfl, hfz, hnd⟩ := hW
  have hA : DataW.TrodAll enc Try.prog W 0 (fun _ => true) true Try.f10.params.toList args.toList ds p := hA0
  rw [Try.params10] at hA hval
  obtain ⟨v0, vs0, d0, ds0, p0, q0, hargs, rfl, rfl, h0, r0⟩ := trodAll_cons hA
  obtain ⟨v1, vs1, d1, ds1, p1, q1, rfl, rfl, rfl, h1, r1⟩ := trodAll_cons r0
  obtain ⟨rfl, rfl, rfl⟩ := trodAll_nil r1
  obtain rfl : args = #[v0, v1] := by cases args; simp_all
  obtain ⟨rfl, rfl⟩ := trodVars_none hV
  obtain ⟨a0, len0, cap0, rfl⟩ := okWide_slice Try.underlying22 (hval 0 22 v0 rfl rfl)
  have k0 := h0
  have lt0 : ∀ x ∈ p0, x.block < W.heap.size := by obtain ⟨m, hm⟩ := k0; exact DataW.trod_lt m _ _ _ hm
  obtain ⟨z0, w0⟩ := isInts_of Try.underlying22 Try.underlying3 (by kernel_rfl) h0
  obtain ⟨a1, len1, cap1, rfl⟩ := okWide_slice Try.underlying22 (hval 1 22 v1 rfl rfl)
  have k1 := h1
  have lt1 : ∀ x ∈ p1, x.block < W.heap.size := by obtain ⟨m, hm⟩ := k1; exact DataW.trod_lt m _ _ _ hm
  obtain ⟨z1, w1⟩ := isInts_of Try.underlying22 Try.underlying3 (by kernel_rfl) h1
  clear hA0 hval0
  refine (walk W a0 len0 cap0 z0 w0 a1 len1 cap1 z1 w1).mono fun e W' ⟨he, bel⟩ => ?_
  subst he
  exact ⟨_, rfl, _, _, _, [], _, [], hW', trodAll_mk1 (shut_bool Try.underlying4 _), (trodAll_cons_mk (Below.trod laidOut (by kernel_rfl) (of_decide_eq_true (by kernel_rfl)) k0 bel lt0) (trodAll_cons_mk (Below.trod laidOut (by kernel_rfl) (of_decide_eq_true (by kernel_rfl)) k1 bel lt1) trodAll_mk0)), rfl, bel.frame _, fun h => by cases h⟩

theorem over : Rows.fnExactNatDivRow.holds Try.pinned (OpenSpec.ofChange Rows.fnExactNatDivSpec) :=
  OpenClaim.holds_of_wide 10 Try.f10 rfl rfl rfl rfl rfl rfl rfl ⟨rfl, rfl, rfl, rfl, rfl⟩ rfl rfl rfl rfl rfl (by kernel_rfl) Try.func10 (by kernel_rfl)
    (of_decide_eq_true (by kernel_rfl)) (by unfold Func.isWrapper; first | (rw [if_pos (by decide +kernel)]; kernel_rfl) | (rw [if_neg (by decide +kernel)]; exact ⟨rfl, rfl⟩))
    (fun os started H enc _ => lifted os started H enc)

theorem proved : Rows.FnExactNatDivSaid := over
#print axioms proved
end Go.Proofs.Ytfhndfcncedieaa.lawNatDiv
