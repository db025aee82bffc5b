/- Proved: at all rows of integers, impl.NatToInt answers as its model spec.NatToInt in every result, writes into no argument, its answer owns its memory, the call returns true and changes no memory that was there. Conditions: none. -/
import Derived.Test.YtfhndfcncedieaaRows
import Derived.Test.YtfhndfcncedieaaHelpI
import Derived.Test.YtfhndfcncedieaaOpen
import Derived.Test.YtfhndfcncedieaaNatToInt
import Derived.WalkKit
import Derived.ProofKit
import Derived.OpenShut
import Derived.ShutString
import Derived.ChangeOld
import Derived.Below
namespace Go.Proofs.Ytfhndfcncedieaa.lawNatToInt
open Go.ChangeShapes Go.WideShapes Go.ChangeAt Go.RowKit
open Go.ChangeMaps (open_string shut_string)
set_option linter.unusedVariables false

theorem own : ownKnob Try.prog.godebug = none := by kernel_rfl
theorem laidOut : laidOutB Try.prog = true := by kernel_rfl
open Nt

set_option maxHeartbeats 1000000 in
theorem walk (W : World) (a0 : Option Addr) (len0 cap0 : Nat) (z0 : List Int) (w0 : IsInts .i64 W a0 len0 cap0 z0) :
    Calls Try.prog 5 #[.slice a0 len0 cap0] W fun e w' => e = .returned (.bool true) ∧ Below W.heap.size W w' := by
  obtain ⟨hA0, hcap0, hcm0, hzs0⟩ := w0
  have hlm0 : len0 ≤ 9223372036854775807 := by unfold maxLen at hcm0; omega
  have HZ0 := Lib.hid (show (ints z0).length = len0 from hA0.1)
  have HA0 := Lib.hid (show VRow W a0 len0 (ints z0) from hA0)
  clear hA0 hzs0 hcm0
  by_cases hs0 : 1048576 < len0
  · go_enter Try.func5, Try.ntmps5
    go_wp2
    go_ret
    exact ⟨rfl, Below.refl _ _⟩
  have HB0 := Lib.hid (Below.refl W.heap.size W)
  go_enter Try.func5, Try.ntmps5
  go_wp2_with fail
  refine (toIntS_any a0 len0 cap0 z0 _ (HA0.out.below HB0.out (Nat.le_refl _)) (by omega)).mono ?_
  rintro e w1 ⟨v1_0, rfl, ho1_0, hb1⟩
  obtain ⟨A_t0, c_t0, hv⟩ := ho1_0.shape
  rw [HZ0.out] at hv
  subst hv
  have H_t0_1 := Lib.hid (ho1_0.based HB0.out.size)
  clear ho1_0
  have HB1 := Lib.hid (HB0.out.trans (hb1.mono HB0.out.size))
  clear hb1
  go_wp2_with fail
  refine (natToInt_spec A_t0 len0 c_t0 z0 _ H_t0_1.out.row (by unfold maxLen; omega)).mono ?_
  rintro e w2 ⟨rfl, hb2⟩
  have H_t0_2 := Lib.hid (H_t0_1.out.below hb2)
  clear H_t0_1
  have HB2 := Lib.hid (HB1.out.trans (hb2.mono HB1.out.size))
  clear hb2
  go_wp2_with fail
  clear H_t0_2
  refine (toIntS_any a0 len0 cap0 z0 _ (HA0.out.below HB2.out (Nat.le_refl _)) (by omega)).mono ?_
  rintro e w3 ⟨v3_0, rfl, ho3_0, hb3⟩
  obtain ⟨A_x0, c_x0, hv⟩ := ho3_0.shape
  rw [HZ0.out] at hv
  subst hv
  have H_x0_3 := Lib.hid (ho3_0.based HB2.out.size)
  clear ho3_0
  have HB3 := Lib.hid (HB2.out.trans (hb3.mono HB2.out.size))
  clear hb3
  go_wp2_with fail
  refine (natToInt_impl A_x0 len0 c_x0 z0 _ H_x0_3.out.row (by unfold maxLen; omega)).mono ?_
  rintro e w4 ⟨rfl, hb4⟩
  have H_x0_4 := Lib.hid (H_x0_3.out.below hb4)
  clear H_x0_3
  have HB4 := Lib.hid (HB3.out.trans (hb4.mono HB3.out.size))
  clear hb4
  go_wp2_with fail
  refine (toIntS_any a0 len0 cap0 z0 _ (HA0.out.below HB4.out (Nat.le_refl _)) (by omega)).mono ?_
  rintro e w5 ⟨v5_0, rfl, ho5_0, hb5⟩
  obtain ⟨A_tt0, c_tt0, hv⟩ := ho5_0.shape
  rw [HZ0.out] at hv
  subst hv
  have H_x0_5 := Lib.hid (H_x0_4.out.below hb5)
  clear H_x0_4
  have H_tt0_5 := Lib.hid (ho5_0.based HB4.out.size)
  clear ho5_0
  have HB5 := Lib.hid (HB4.out.trans (hb5.mono HB4.out.size))
  clear hb5
  go_wp2_with fail
  refine (eqIntS_same A_x0 A_tt0 len0 c_x0 c_tt0 z0 _ H_x0_5.out.row H_tt0_5.out.row (by unfold maxLen; omega)).mono ?_
  rintro e w6 ⟨rfl, hb6⟩
  have H_x0_6 := Lib.hid (H_x0_5.out.below hb6)
  clear H_x0_5
  have H_tt0_6 := Lib.hid (H_tt0_5.out.below hb6)
  clear H_tt0_5
  have HB6 := Lib.hid (HB5.out.trans (hb6.mono HB5.out.size))
  clear hb6
  clear H_tt0_6
  go_wp2
  go_ret
  exact ⟨rfl, HB6.out⟩

set_option maxRecDepth 100000 in
theorem lifted (os : Os) (started : os.Started) (H : Type) (enc : TypeId × Value → H) :
    ReturnsInHanded {} Try.checked os 5 .any (Rows.fnExactNatToIntSpec.pre6 enc Try.prog Try.f5 Rows.fnExactNatToIntRow.domain false) (Rows.fnExactNatToIntSpec.post enc Try.prog Try.f5 false true false false) := by
  refine returnsInHanded_of_change (C := Try.checked) own started (by kernel_rfl) Try.func5
    (ChangeSpec.witness6 (enc := enc) (C := Try.checked) false ⟨#[], #[.slice none 0 0], []⟩ 8 (by kernel_rfl) (by kernel_rfl) (by kernel_rfl) (by kernel_rfl)) ?_
  intro W base args ds gs before hval0 hW hcnd _
  have hval : ∀ (j : Nat) t v, Try.f5.params[j]? = some t → args[j]? = some v → Value.okWide Try.prog W .any base t v := hval0
  have hW' := hW
  obtain ⟨p, q, hA0, hV, rfl, hfz, hnd⟩ := hW
  have hA : DataW.TrodAll enc Try.prog W 0 (fun _ => true) true Try.f5.params.toList args.toList ds p := hA0
  rw [Try.params5] at hA hval
  obtain ⟨v0, vs0, d0, ds0, p0, q0, hargs, rfl, rfl, h0, r0⟩ := trodAll_cons hA
  obtain ⟨rfl, rfl, rfl⟩ := trodAll_nil r0
  obtain rfl : args = #[v0] := by cases args; simp_all
  obtain ⟨rfl, rfl⟩ := trodVars_none hV
  obtain ⟨a0, len0, cap0, rfl⟩ := okWide_slice Try.underlying22 (hval 0 22 v0 rfl rfl)
  have k0 := h0
  have lt0 : ∀ x ∈ p0, x.block < W.heap.size := by obtain ⟨m, hm⟩ := k0; exact DataW.trod_lt m _ _ _ hm
  obtain ⟨z0, w0⟩ := isInts_of Try.underlying22 Try.underlying3 (by kernel_rfl) h0
  clear hA0 hval0
  refine (walk W a0 len0 cap0 z0 w0).mono fun e W' ⟨he, bel⟩ => ?_
  subst he
  exact ⟨_, rfl, _, _, _, [], _, [], hW', trodAll_mk1 (shut_bool Try.underlying4 _), (trodAll_cons_mk (Below.trod laidOut (by kernel_rfl) (of_decide_eq_true (by kernel_rfl)) k0 bel lt0) trodAll_mk0), rfl, bel.frame _, fun h => by cases h⟩

theorem over : Rows.fnExactNatToIntRow.holds Try.pinned (OpenSpec.ofChange Rows.fnExactNatToIntSpec) :=
  OpenClaim.holds_of_wide 5 Try.f5 rfl rfl rfl rfl rfl rfl rfl ⟨rfl, rfl, rfl, rfl, rfl⟩ rfl rfl rfl rfl rfl (by kernel_rfl) Try.func5 (by kernel_rfl)
    (of_decide_eq_true (by kernel_rfl)) (by unfold Func.isWrapper; first | (rw [if_pos (by decide +kernel)]; kernel_rfl) | (rw [if_neg (by decide +kernel)]; exact ⟨rfl, rfl⟩))
    (fun os started H enc _ => lifted os started H enc)

theorem proved : Rows.FnExactNatToIntSaid := over
#print axioms proved
end Go.Proofs.Ytfhndfcncedieaa.lawNatToInt
