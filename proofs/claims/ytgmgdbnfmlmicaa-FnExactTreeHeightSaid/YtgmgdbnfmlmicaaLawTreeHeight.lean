/- Proved: at all orders and lists of parents, impl.TreeHeight answers as its model spec.TreeHeight, writes into no argument, the call returns true and changes no memory that was there. Conditions: none. -/
import Derived.Test.YtgmgdbnfmlmicaaRows
import Derived.Test.YtgmgdbnfmlmicaaHelpI
import Derived.Test.YtgmgdbnfmlmicaaOpen
import Derived.Test.YtgmgdbnfmlmicaaHeightS
import Derived.Test.YtgmgdbnfmlmicaaHeightI
import Derived.WalkKit
import Derived.ProofKit
import Derived.OpenShut
import Derived.ShutString
import Derived.ChangeOld
import Derived.Below
namespace Go.Proofs.Ytgmgdbnfmlmicaa.lawTreeHeight
open Go.ChangeShapes Go.WideShapes Go.ChangeAt Go.RowKit
open Go.ChangeMaps (open_string shut_string)
set_option linter.unusedVariables false

theorem own : ownKnob Try.prog.godebug = none := by kernel_rfl
theorem laidOut : laidOutB Try.prog = true := by kernel_rfl

set_option maxRecDepth 100000 in
set_option maxHeartbeats 4000000 in
theorem walk (W : World) (a0 : Option Addr) (len0 cap0 : Nat) (z0 : List Int) (w0 : IsInts .i64 W a0 len0 cap0 z0) (a1 : Option Addr) (len1 cap1 : Nat) (z1 : List Int) (w1 : IsInts .i64 W a1 len1 cap1 z1) :
    Calls Try.prog 3 #[.slice a0 len0 cap0, .slice a1 len1 cap1] W fun e w' => e = .returned (.bool true) ∧ Below W.heap.size W w' := by
  obtain ⟨hA0, hcap0, hcm0, hzs0⟩ := w0
  have hlm0 : len0 ≤ 9223372036854775807 := by unfold maxLen at hcm0; omega
  have HZ0 := Lib.hid (show (ints z0).length = len0 from hA0.1)
  have HA0 := Lib.hid (show VRow W a0 len0 (ints z0) from hA0)
  clear hA0 hzs0 hcm0
  obtain ⟨hA1, hcap1, hcm1, hzs1⟩ := w1
  have hlm1 : len1 ≤ 9223372036854775807 := by unfold maxLen at hcm1; omega
  have HZ1 := Lib.hid (show (ints z1).length = len1 from hA1.1)
  have HA1 := Lib.hid (show VRow W a1 len1 (ints z1) from hA1)
  clear hA1 hzs1 hcm1
  by_cases hs0 : 1048576 < len0
  · go_enter Try.func3, Try.ntmps3
    go_wp2
    go_ret
    exact ⟨rfl, Below.refl _ _⟩
  by_cases hs1 : 1048576 < len1
  · go_enter Try.func3, Try.ntmps3
    go_wp2
    go_ret
    exact ⟨rfl, Below.refl _ _⟩
  have HB0 := Lib.hid (Below.refl W.heap.size W)
  go_enter Try.func3, Try.ntmps3
  go_wp2_with fail
  refine (toIntS_any a0 len0 cap0 z0 _ (HA0.out.below HB0.out (Nat.le_refl _)) (by omega)).mono ?_
  rintro e w1 ⟨v1_0, rfl, ho1_0, hb1⟩
  obtain ⟨A_t0, c_t0, hv⟩ := ho1_0.shape
  rw [HZ0.out] at hv
  subst hv
  have H_t0_1 := Lib.hid (ho1_0.based HB0.out.size)
  clear ho1_0
  have HB1 := Lib.hid (HB0.out.trans (hb1.mono HB0.out.size))
  clear hb1
  go_wp2_with fail
  refine (toIntS_any a1 len1 cap1 z1 _ (HA1.out.below HB1.out (Nat.le_refl _)) (by omega)).mono ?_
  rintro e w2 ⟨v2_0, rfl, ho2_0, hb2⟩
  obtain ⟨A_t1, c_t1, hv⟩ := ho2_0.shape
  rw [HZ1.out] at hv
  subst hv
  have H_t0_2 := Lib.hid (H_t0_1.out.below hb2)
  clear H_t0_1
  have H_t1_2 := Lib.hid (ho2_0.based HB1.out.size)
  clear ho2_0
  have HB2 := Lib.hid (HB1.out.trans (hb2.mono HB1.out.size))
  clear hb2
  go_wp2_with fail
  refine (treeHeight_s A_t0 A_t1 len0 len1 c_t0 c_t1 z0 z1 _ H_t0_2.out.row H_t1_2.out.row (by omega) (by omega)).mono ?_
  rintro e w3 ⟨rfl, hb3⟩
  have H_t0_3 := Lib.hid (H_t0_2.out.below hb3)
  clear H_t0_2
  have H_t1_3 := Lib.hid (H_t1_2.out.below hb3)
  clear H_t1_2
  have HB3 := Lib.hid (HB2.out.trans (hb3.mono HB2.out.size))
  clear hb3
  go_wp2_with fail
  clear H_t0_3
  clear H_t1_3
  refine (toIntS_any a0 len0 cap0 z0 _ (HA0.out.below HB3.out (Nat.le_refl _)) (by omega)).mono ?_
  rintro e w4 ⟨v4_0, rfl, ho4_0, hb4⟩
  obtain ⟨A_x0, c_x0, hv⟩ := ho4_0.shape
  rw [HZ0.out] at hv
  subst hv
  have H_x0_4 := Lib.hid (ho4_0.based HB3.out.size)
  clear ho4_0
  have HB4 := Lib.hid (HB3.out.trans (hb4.mono HB3.out.size))
  clear hb4
  go_wp2_with fail
  refine (toIntS_any a1 len1 cap1 z1 _ (HA1.out.below HB4.out (Nat.le_refl _)) (by omega)).mono ?_
  rintro e w5 ⟨v5_0, rfl, ho5_0, hb5⟩
  obtain ⟨A_x1, c_x1, hv⟩ := ho5_0.shape
  rw [HZ1.out] at hv
  subst hv
  have AP_x0_x1 := Lib.hid (OwnV.apart H_x0_4.out ho5_0 (Nat.le_refl _))
  have AP_x1_x0 := Lib.hid (OwnV.apart' ho5_0 H_x0_4.out (Nat.le_refl _))
  have H_x0_5 := Lib.hid (H_x0_4.out.below hb5)
  clear H_x0_4
  have H_x1_5 := Lib.hid (ho5_0.based HB4.out.size)
  clear ho5_0
  have HB5 := Lib.hid (HB4.out.trans (hb5.mono HB4.out.size))
  clear hb5
  go_wp2_with fail
  refine (treeHeight_i A_x0 A_x1 len0 len1 c_x0 c_x1 z0 z1 _ H_x0_5.out.row H_x1_5.out.row (H_x0_5.out.cap).1 (H_x0_5.out.cap).2 (by omega) (by omega)).mono ?_
  rintro e w6 ⟨rfl, hb6⟩
  have H_x0_6 := Lib.hid (H_x0_5.out.below hb6)
  clear H_x0_5
  have H_x1_6 := Lib.hid (H_x1_5.out.below hb6)
  clear H_x1_5
  have HB6 := Lib.hid (HB5.out.trans (hb6.mono HB5.out.size))
  clear hb6
  go_wp2_with fail
  refine (toIntS_any a0 len0 cap0 z0 _ (HA0.out.below HB6.out (Nat.le_refl _)) (by omega)).mono ?_
  rintro e w7 ⟨v7_0, rfl, ho7_0, hb7⟩
  obtain ⟨A_tt0, c_tt0, hv⟩ := ho7_0.shape
  rw [HZ0.out] at hv
  subst hv
  have H_x0_7 := Lib.hid (H_x0_6.out.below hb7)
  clear H_x0_6
  have H_x1_7 := Lib.hid (H_x1_6.out.below hb7)
  clear H_x1_6
  have H_tt0_7 := Lib.hid (ho7_0.based HB6.out.size)
  clear ho7_0
  have HB7 := Lib.hid (HB6.out.trans (hb7.mono HB6.out.size))
  clear hb7
  go_wp2_with fail
  refine (eqIntS_same A_x0 A_tt0 len0 c_x0 c_tt0 z0 _ H_x0_7.out.row H_tt0_7.out.row (by unfold maxLen; omega)).mono ?_
  rintro e w8 ⟨rfl, hb8⟩
  have H_x0_8 := Lib.hid (H_x0_7.out.below hb8)
  clear H_x0_7
  have H_x1_8 := Lib.hid (H_x1_7.out.below hb8)
  clear H_x1_7
  have H_tt0_8 := Lib.hid (H_tt0_7.out.below hb8)
  clear H_tt0_7
  have HB8 := Lib.hid (HB7.out.trans (hb8.mono HB7.out.size))
  clear hb8
  go_wp2_with fail
  clear H_tt0_8
  refine (toIntS_any a1 len1 cap1 z1 _ (HA1.out.below HB8.out (Nat.le_refl _)) (by omega)).mono ?_
  rintro e w9 ⟨v9_0, rfl, ho9_0, hb9⟩
  obtain ⟨A_tt1, c_tt1, hv⟩ := ho9_0.shape
  rw [HZ1.out] at hv
  subst hv
  have H_x0_9 := Lib.hid (H_x0_8.out.below hb9)
  clear H_x0_8
  have H_x1_9 := Lib.hid (H_x1_8.out.below hb9)
  clear H_x1_8
  have H_tt1_9 := Lib.hid (ho9_0.based HB8.out.size)
  clear ho9_0
  have HB9 := Lib.hid (HB8.out.trans (hb9.mono HB8.out.size))
  clear hb9
  go_wp2_with fail
  refine (eqIntS_same A_x1 A_tt1 len1 c_x1 c_tt1 z1 _ H_x1_9.out.row H_tt1_9.out.row (by unfold maxLen; omega)).mono ?_
  rintro e w10 ⟨rfl, hb10⟩
  have H_x0_10 := Lib.hid (H_x0_9.out.below hb10)
  clear H_x0_9
  have H_x1_10 := Lib.hid (H_x1_9.out.below hb10)
  clear H_x1_9
  have H_tt1_10 := Lib.hid (H_tt1_9.out.below hb10)
  clear H_tt1_9
  have HB10 := Lib.hid (HB9.out.trans (hb10.mono HB9.out.size))
  clear hb10
  clear H_tt1_10
  go_wp2
  go_ret
  exact ⟨rfl, HB10.out⟩

set_option maxRecDepth 100000 in
theorem lifted (os : Os) (started : os.Started) (H : Type) (enc : TypeId × Value → H) :
    ReturnsInHanded {} Try.checked os 3 .any (Rows.fnExactTreeHeightSpec.pre6 enc Try.prog Try.f3 Rows.fnExactTreeHeightRow.domain false) (Rows.fnExactTreeHeightSpec.post enc Try.prog Try.f3 false true false false) := by
  refine returnsInHanded_of_change (C := Try.checked) own started (by kernel_rfl) Try.func3
    (ChangeSpec.witness6 (enc := enc) (C := Try.checked) false ⟨#[], #[.slice none 0 0, .slice none 0 0], []⟩ 8 (by kernel_rfl) (by kernel_rfl) (by kernel_rfl) (by kernel_rfl)) ?_
  intro W base args ds gs before hval0 hW hcnd _
  have hval : ∀ (j : Nat) t v, Try.f3.params[j]? = some t → args[j]? = some v → Value.okWide Try.prog W .any base t v := hval0
  have hW' := hW
  obtain ⟨p, q, hA0, hV, rfl, hfz, hnd⟩ := hW
  have hA : DataW.TrodAll enc Try.prog W 0 (fun _ => true) true Try.f3.params.toList args.toList ds p := hA0
  rw [Try.params3] at hA hval
  obtain ⟨v0, vs0, d0, ds0, p0, q0, hargs, rfl, rfl, h0, r0⟩ := trodAll_cons hA
  obtain ⟨v1, vs1, d1, ds1, p1, q1, rfl, rfl, rfl, h1, r1⟩ := trodAll_cons r0
  obtain ⟨rfl, rfl, rfl⟩ := trodAll_nil r1
  obtain rfl : args = #[v0, v1] := by cases args; simp_all
  obtain ⟨rfl, rfl⟩ := trodVars_none hV
  obtain ⟨a0, len0, cap0, rfl⟩ := okWide_slice Try.underlying22 (hval 0 22 v0 rfl rfl)
  have k0 := h0
  have lt0 : ∀ x ∈ p0, x.block < W.heap.size := by obtain ⟨m, hm⟩ := k0; exact DataW.trod_lt m _ _ _ hm
  obtain ⟨z0, w0⟩ := isInts_of Try.underlying22 Try.underlying3 (by kernel_rfl) h0
  obtain ⟨a1, len1, cap1, rfl⟩ := okWide_slice Try.underlying22 (hval 1 22 v1 rfl rfl)
  have k1 := h1
  have lt1 : ∀ x ∈ p1, x.block < W.heap.size := by obtain ⟨m, hm⟩ := k1; exact DataW.trod_lt m _ _ _ hm
  obtain ⟨z1, w1⟩ := isInts_of Try.underlying22 Try.underlying3 (by kernel_rfl) h1
  clear hA0 hval0
  refine (walk W a0 len0 cap0 z0 w0 a1 len1 cap1 z1 w1).mono fun e W' ⟨he, bel⟩ => ?_
  subst he
  exact ⟨_, rfl, _, _, _, [], _, [], hW', trodAll_mk1 (shut_bool Try.underlying4 _), (trodAll_cons_mk (Below.trod laidOut (by kernel_rfl) (of_decide_eq_true (by kernel_rfl)) k0 bel lt0) (trodAll_cons_mk (Below.trod laidOut (by kernel_rfl) (of_decide_eq_true (by kernel_rfl)) k1 bel lt1) trodAll_mk0)), rfl, bel.frame _, fun h => by cases h⟩

theorem over : Rows.fnExactTreeHeightRow.holds Try.pinned (OpenSpec.ofChange Rows.fnExactTreeHeightSpec) :=
  OpenClaim.holds_of_wide 3 Try.f3 rfl rfl rfl rfl rfl rfl rfl ⟨rfl, rfl, rfl, rfl, rfl⟩ rfl rfl rfl rfl rfl (by kernel_rfl) Try.func3 (by kernel_rfl)
    (of_decide_eq_true (by kernel_rfl)) (by unfold Func.isWrapper; first | (rw [if_pos (by decide +kernel)]; kernel_rfl) | (rw [if_neg (by decide +kernel)]; exact ⟨rfl, rfl⟩))
    (fun os started H enc _ => lifted os started H enc)

theorem proved : Rows.FnExactTreeHeightSaid := over
#print axioms proved
end Go.Proofs.Ytgmgdbnfmlmicaa.lawTreeHeight
