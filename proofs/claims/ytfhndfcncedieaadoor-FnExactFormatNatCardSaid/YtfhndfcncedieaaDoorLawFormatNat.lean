/- Proved: at all rows of integers, impl.FormatNat answers as its model spec.FormatNat in every result, writes into no argument, its answer owns its memory, the call returns true and changes no memory that was there; the listed variables of the library are tied to the text that lays them. Conditions: none. -/
import Derived.Test.YtfhndfcncedieaaDoorRows
import Derived.Test.YtfhndfcncedieaaDoorHelpI
import Derived.Test.YtfhndfcncedieaaDoorOpen
import Derived.Test.YtfhndfcncedieaaDoorFormatNat
import Derived.Test.YtfhndfcncedieaaDoorLaidNat
import Derived.Test.YtfhndfcncedieaaDoorCards
import Derived.Test.YtfhndfcncedieaaDoorTie
import Derived.WalkKit
import Derived.ProofKit
import Derived.OpenShut
import Derived.ShutString
import Derived.ChangeOld
import Derived.Below
import Derived.LaidMore
import Derived.Stop.Joined
import Derived.SevenTiedAt
namespace Go.Proofs.YtfhndfcncedieaaDoor.lawFormatNat
open Go.ChangeShapes Go.WideShapes Go.ChangeAt Go.RowKit
open Go.ChangeMaps (open_string shut_string)
set_option linter.unusedVariables false

theorem own : ownKnob Tryd.prog.godebug = none := by kernel_rfl
theorem laidOut : laidOutB Tryd.prog = true := by kernel_rfl
open Nt

set_option maxHeartbeats 1000000 in
theorem walk (W : World) (hlaid : Laid1 W) (a0 : Option Addr) (len0 cap0 : Nat) (z0 : List Int) (w0 : IsInts .i64 W a0 len0 cap0 z0) :
    Calls Tryd.prog 4 #[.slice a0 len0 cap0] W fun e w' => e = .returned (.bool true) ∧ Below W.heap.size W w' := by
  have HLD := Lib.hid hlaid
  clear hlaid
  obtain ⟨hA0, hcap0, hcm0, hzs0⟩ := w0
  have hlm0 : len0 ≤ 9223372036854775807 := by unfold maxLen at hcm0; omega
  have HZ0 := Lib.hid (show (ints z0).length = len0 from hA0.1)
  have HA0 := Lib.hid (show VRow W a0 len0 (ints z0) from hA0)
  clear hA0 hzs0 hcm0
  by_cases hs0 : 1048576 < len0
  · go_enter Tryd.func4, Tryd.ntmps4
    go_wp2
    go_ret
    exact ⟨rfl, Below.refl _ _⟩
  have HB0 := Lib.hid (Below.refl W.heap.size W)
  go_enter Tryd.func4, Tryd.ntmps4
  go_wp2_with fail
  refine (toIntS_any a0 len0 cap0 z0 _ (HA0.out.below HB0.out (Nat.le_refl _)) (by omega)).mono ?_
  rintro e w1 ⟨v1_0, rfl, ho1_0, hb1⟩
  obtain ⟨A_t0, c_t0, hv⟩ := ho1_0.shape
  rw [HZ0.out] at hv
  subst hv
  have H_t0_1 := Lib.hid (ho1_0.based HB0.out.size)
  clear ho1_0
  have HB1 := Lib.hid (HB0.out.trans (hb1.mono HB0.out.size))
  clear hb1
  go_wp2_with fail
  refine (formatNat_spec A_t0 len0 c_t0 z0 _ H_t0_1.out.row (by unfold maxLen; omega)).mono ?_
  rintro e w2 ⟨rfl, hb2⟩
  have H_t0_2 := Lib.hid (H_t0_1.out.below hb2)
  clear H_t0_1
  have HB2 := Lib.hid (HB1.out.trans (hb2.mono HB1.out.size))
  clear hb2
  go_wp2_with fail
  clear H_t0_2
  refine (toIntS_any a0 len0 cap0 z0 _ (HA0.out.below HB2.out (Nat.le_refl _)) (by omega)).mono ?_
  rintro e w3 ⟨v3_0, rfl, ho3_0, hb3⟩
  obtain ⟨A_x0, c_x0, hv⟩ := ho3_0.shape
  rw [HZ0.out] at hv
  subst hv
  have H_x0_3 := Lib.hid (ho3_0.based HB2.out.size)
  clear ho3_0
  have HB3 := Lib.hid (HB2.out.trans (hb3.mono HB2.out.size))
  clear hb3
  go_wp2_with fail
  refine (formatNat_impl A_x0 len0 c_x0 z0 _ H_x0_3.out.row (by unfold maxLen; omega) (HLD.out.below HB3.out)).mono ?_
  rintro e w4 ⟨rfl, hb4⟩
  have H_x0_4 := Lib.hid (H_x0_3.out.below hb4)
  clear H_x0_3
  have HB4 := Lib.hid (HB3.out.trans (hb4.mono HB3.out.size))
  clear hb4
  go_wp2_with fail
  refine (toIntS_any a0 len0 cap0 z0 _ (HA0.out.below HB4.out (Nat.le_refl _)) (by omega)).mono ?_
  rintro e w5 ⟨v5_0, rfl, ho5_0, hb5⟩
  obtain ⟨A_tt0, c_tt0, hv⟩ := ho5_0.shape
  rw [HZ0.out] at hv
  subst hv
  have H_x0_5 := Lib.hid (H_x0_4.out.below hb5)
  clear H_x0_4
  have H_tt0_5 := Lib.hid (ho5_0.based HB4.out.size)
  clear ho5_0
  have HB5 := Lib.hid (HB4.out.trans (hb5.mono HB4.out.size))
  clear hb5
  go_wp2_with fail
  refine (eqIntS_same A_x0 A_tt0 len0 c_x0 c_tt0 z0 _ H_x0_5.out.row H_tt0_5.out.row (by unfold maxLen; omega)).mono ?_
  rintro e w6 ⟨rfl, hb6⟩
  have H_x0_6 := Lib.hid (H_x0_5.out.below hb6)
  clear H_x0_5
  have H_tt0_6 := Lib.hid (H_tt0_5.out.below hb6)
  clear H_tt0_5
  have HB6 := Lib.hid (HB5.out.trans (hb6.mono HB5.out.size))
  clear hb6
  clear H_tt0_6
  go_wp2
  go_ret
  exact ⟨rfl, HB6.out⟩

theorem door_met (os : Os) (args : Array Value) : laidMetH Tryd.prog Rows.fnExactFormatNatRow.laid ((World.doorLaid Tryd.prog 400 os).forCall (fun _ _ => 0) ⟨#[], args, []⟩).memory :=
  laidMetH_of_parts3 (fuel := 8) (laidMet_of_run' 8 (by kernel_rfl) (by kernel_rfl)) (by kernel_rfl) (by kernel_rfl)
set_option maxRecDepth 100000 in
theorem lifted (os : Os) (started : os.Started) (H : Type) (enc : TypeId × Value → H) :
    ReturnsInHanded {} Tryd.checked os 4 .any (fun w args => (Rows.fnExactFormatNatSpec.pre enc Tryd.prog Tryd.f4 [] false w args ∧ laidMetH Tryd.prog Rows.fnExactFormatNatRow.laid w) ∧ sizedMet enc Tryd.prog Tryd.f4 (OpenSpec.ofChange Rows.fnExactFormatNatSpec) false w args)
      (Rows.fnExactFormatNatSpec.post enc Tryd.prog Tryd.f4 false true false false) := by
  refine returnsInHanded_of_change_and (C := Tryd.checked) (X := fun w _ => laidMetH Tryd.prog Rows.fnExactFormatNatRow.laid w) (fun _ _ _ hh h => h.of_heap hh) own started (by kernel_rfl) Tryd.func4
    (ChangeSpec.witness_shaped (enc := enc) (C := Tryd.checked) (os := os) (X := fun w _ => laidMetH Tryd.prog Rows.fnExactFormatNatRow.laid w) false (World.doorLaid Tryd.prog 400 os) #[.slice none 0 0] 8 rfl (World.shaped_of_RefB (by kernel_rfl) (by kernel_rfl)) (by kernel_rfl) (by kernel_rfl) (by kernel_rfl) (door_met os _)) ?_
  intro W base args ds gs before hval0 hW _ _ hL _
  have hval : ∀ (j : Nat) t v, Tryd.f4.params[j]? = some t → args[j]? = some v → Value.okWide Tryd.prog W .any base t v := hval0
  have hW' := hW
  obtain ⟨p, q, hA0, hV, rfl, hfz, hnd⟩ := hW
  have hA : DataW.TrodAll enc Tryd.prog W 0 (fun _ => true) true Tryd.f4.params.toList args.toList ds p := hA0
  rw [Tryd.params4] at hA hval
  obtain ⟨v0, vs0, d0, ds0, p0, q0, hargs, rfl, rfl, h0, r0⟩ := trodAll_cons hA
  obtain ⟨rfl, rfl, rfl⟩ := trodAll_nil r0
  obtain rfl : args = #[v0] := by cases args; simp_all
  obtain ⟨rfl, rfl⟩ := trodVars_none hV
  obtain ⟨a0, len0, cap0, rfl⟩ := okWide_slice Tryd.underlying23 (hval 0 23 v0 rfl rfl)
  have k0 := h0
  have lt0 : ∀ x ∈ p0, x.block < W.heap.size := by obtain ⟨m, hm⟩ := k0; exact DataW.trod_lt m _ _ _ hm
  obtain ⟨z0, w0⟩ := isInts_of Tryd.underlying23 Tryd.underlying3 (by kernel_rfl) h0
  clear hA0 hval0
  refine (walk W (laid1_nat hL) a0 len0 cap0 z0 w0).mono fun e W' ⟨he, bel⟩ => ?_
  subst he
  exact ⟨_, rfl, _, _, _, [], _, [], hW', trodAll_mk1 (shut_bool Tryd.underlying4 _), (trodAll_cons_mk (Below.trod laidOut (by kernel_rfl) (of_decide_eq_true (by kernel_rfl)) k0 bel lt0) trodAll_mk0), rfl, bel.frame _, fun h => by cases h⟩

theorem over : Rows.fnExactFormatNatRow.holds Tryd.pinned (OpenSpec.ofChange Rows.fnExactFormatNatSpec) :=
  OpenClaim.holds_of_wide 4 Tryd.f4 rfl rfl rfl rfl rfl rfl rfl ⟨rfl, rfl, rfl, rfl, rfl⟩ rfl rfl rfl rfl rfl (by kernel_rfl) Tryd.func4 (by kernel_rfl)
    (of_decide_eq_true (by kernel_rfl)) (by unfold Func.isWrapper; first | (rw [if_pos (by decide +kernel)]; kernel_rfl) | (rw [if_neg (by decide +kernel)]; exact ⟨rfl, rfl⟩))
    (fun os started H enc _ => lifted os started H enc)

theorem bare : Rows.FnExactFormatNatSaid := over
theorem proved : Rows.FnExactFormatNatCardSaid :=
  Claim7.holds_tied_plain_at .later [] [.data, .data, .data] true (true, "bb1f608feb47dfb3156a4ae476cb38191bd3d9f39fe00d986a8a56ca4e52546d") true
    bare (fun _ h => by cases h) (by kernel_rfl) (fun _ h => by cases h) fnExactFormatNat_row_tie rfl ⟨rfl, rfl⟩ (by kernel_rfl) rfl
    (fun f fn hf hfn => by
      obtain rfl : f = 4 := Option.some.inj ((show Tryd.prog.funcNamed "loop.example/g00810/laws.FnExactFormatNat" = some 4 by kernel_rfl).symm.trans hf) |>.symm
      obtain rfl : fn = Tryd.f4 := (Option.some.inj (Tryd.func4.symm.trans hfn)).symm
      exact ⟨by kernel_rfl, fun j t ht => by
        rw [Tryd.params4] at ht
        have hm : t ∈ [23] := by simpa using Array.mem_of_getElem? ht
        have hall : ([23].all fun u => !Tryd.prog.wantsStandIn u) = true := by kernel_rfl
        exact (show Tryd.prog.wantsStandIn t = false by simpa using List.all_eq_true.1 hall t hm)⟩)
    (by kernel_rfl)
#print axioms proved
end Go.Proofs.YtfhndfcncedieaaDoor.lawFormatNat
