/- Proved: at every pose, impl.FormatPose answers as its model spec.FormatPose in every result, the call returns true and changes no memory that was there; the listed variables of the library are tied to the text that lays them. Conditions: none. -/
import Derived.Test.YtdilgjakodimbaaDoorRows
import Derived.Test.YtdilgjakodimbaaDoorOpenP
import Derived.Test.YtdilgjakodimbaaDoorPoseText
import Derived.Test.YtdilgjakodimbaaDoorLaidD
import Derived.Test.YtdilgjakodimbaaDoorCards
import Derived.Test.YtdilgjakodimbaaDoorTie
import Derived.WalkKit
import Derived.ProofKit
import Derived.OpenShut
import Derived.ShutString
import Derived.ChangeOld
import Derived.Below
import Derived.OpenVars
import Derived.LaidMore
import Derived.Stop.Joined
import Derived.SevenTiedAt
namespace Go.Proofs.YtdilgjakodimbaaDoor.lawFormatPose
open Go.ChangeShapes Go.WideShapes Go.ChangeAt Go.RowKit
open Go.ChangeMaps (open_string shut_string)
set_option linter.unusedVariables false

theorem own : ownKnob Tryd.prog.godebug = none := by kernel_rfl
theorem laidOut : laidOutB Tryd.prog = true := by kernel_rfl
open Po

set_option maxRecDepth 100000 in
set_option maxHeartbeats 4000000 in
theorem walk (w : World) (hlaid : Laid1 w) (t0 x0 y0 : Int) :
    Calls Tryd.prog 10 #[.agg #[.int .i64 t0, .int .i64 x0, .int .i64 y0]] w fun e w' => e = .returned (.bool true) ∧ Below w.heap.size w w' := by
  have HL := Lib.hid hlaid
  clear hlaid
  obtain ⟨R, hR⟩ : ∃ z, fmtP t0 x0 y0 = z := ⟨_, rfl⟩
  have HR := Lib.hid hR
  clear hR
  go_enter Tryd.func10, Tryd.ntmps10
  have HB_0 := Lib.hid ((Below.refl w.heap.size w).alloc (Nat.le_refl _) (.cells #[.int .i64 t0, .int .i64 x0, .int .i64 y0] 50))
  have K_a_0 := Lib.hid (HeldL.new_at w (w.heap.size) [.int .i64 t0, .int .i64 x0, .int .i64 y0] 50 (by first | rfl | simp))
  go_wp2_with fail
  refine (toPose_any t0 x0 y0 _).mono ?_
  rintro e w1 ⟨rfl, hb⟩
  have K_a_1 := Lib.hid (K_a_0.out.after hb)
  have HB_1 := Lib.hid (HB_0.out.trans (hb.mono HB_0.out.size))
  clear hb
  go_wp2_with fail
  refine (formatPose_spec t0 x0 y0 _).mono ?_
  rintro e w2 ⟨rfl, hb⟩
  rw [HR.out]
  have K_a_2 := Lib.hid (K_a_1.out.after hb)
  have HB_2 := Lib.hid (HB_1.out.trans (hb.mono HB_1.out.size))
  clear hb
  have hk_a_0_2 := K_a_2.out.cell 0 _ rfl
  have hk_a_1_2 := K_a_2.out.cell 1 _ rfl
  have hk_a_2_2 := K_a_2.out.cell 2 _ rfl
  go_wp2_with fail
  refine (toPose_any t0 x0 y0 _).mono ?_
  rintro e w3 ⟨rfl, hb⟩
  have K_a_3 := Lib.hid (K_a_2.out.after hb)
  have HB_3 := Lib.hid (HB_2.out.trans (hb.mono HB_2.out.size))
  clear hb
  clear hk_a_0_2
  clear hk_a_1_2
  clear hk_a_2_2
  go_wp2_with fail
  refine (formatPose_impl t0 x0 y0 _ (HL.out.below HB_3.out)).mono ?_
  rintro e w4 ⟨rfl, hb⟩
  rw [HR.out]
  have K_a_4 := Lib.hid (K_a_3.out.after hb)
  have HB_4 := Lib.hid (HB_3.out.trans (hb.mono HB_3.out.size))
  clear hb
  go_wp2
  go_ret
  exact ⟨rfl, HB_4.out⟩

theorem door_met (os : Os) (args : Array Value) : laidMetH Tryd.prog Rows.fnExactFormatPoseRow.laid ((World.doorLaid Tryd.prog 400 os).forCall (fun _ _ => 0) ⟨#[], args, []⟩).memory :=
  laidMetH_of_parts3 (fuel := 8) (laidMet_of_run' 8 (by kernel_rfl) (by kernel_rfl)) (by kernel_rfl) (by kernel_rfl)
set_option maxRecDepth 100000 in
theorem lifted (os : Os) (started : os.Started) (H : Type) (enc : TypeId × Value → H) :
    ReturnsInHanded {} Tryd.checked os 10 .any (fun w args => (Rows.fnExactFormatPoseSpec.pre enc Tryd.prog Tryd.f10 [] false w args ∧ laidMetH Tryd.prog Rows.fnExactFormatPoseRow.laid w) ∧ sizedMet enc Tryd.prog Tryd.f10 (OpenSpec.ofChange Rows.fnExactFormatPoseSpec) false w args)
      (Rows.fnExactFormatPoseSpec.post enc Tryd.prog Tryd.f10 false true false false) := by
  refine returnsInHanded_of_change_and (C := Tryd.checked) (X := fun w _ => laidMetH Tryd.prog Rows.fnExactFormatPoseRow.laid w) (fun _ _ _ hh h => h.of_heap hh) own started (by kernel_rfl) Tryd.func10
    (ChangeSpec.witness_shaped (enc := enc) (C := Tryd.checked) (os := os) (X := fun w _ => laidMetH Tryd.prog Rows.fnExactFormatPoseRow.laid w) false (World.doorLaid Tryd.prog 400 os) #[.agg #[.int .i64 0, .int .i64 0, .int .i64 0]] 8 rfl (World.shaped_of_RefB (by kernel_rfl) (by kernel_rfl)) (by kernel_rfl) (by kernel_rfl) (by kernel_rfl) (door_met os _)) ?_
  intro W base args ds gs before hval0 hW _ _ hL _
  have hval : ∀ (j : Nat) t v, Tryd.f10.params[j]? = some t → args[j]? = some v → Value.okWide Tryd.prog W .any base t v := hval0
  have hW' := hW
  obtain ⟨p, q, hA0, hV, rfl, hfz, hnd⟩ := hW
  have hA : DataW.TrodAll enc Tryd.prog W 0 (fun _ => true) true Tryd.f10.params.toList args.toList ds p := hA0
  rw [Tryd.params10] at hA hval
  obtain ⟨v0, vs0, d0, ds0, p0, q0, hargs, rfl, rfl, h0, r0⟩ := trodAll_cons hA
  obtain ⟨rfl, rfl, rfl⟩ := trodAll_nil r0
  obtain rfl : args = #[v0] := by cases args; simp_all
  obtain ⟨rfl, rfl⟩ := trodVars_none hV
  have k0 := h0
  have lt0 : ∀ x ∈ p0, x.block < W.heap.size := by obtain ⟨m, hm⟩ := k0; exact DataW.trod_lt m _ _ _ hm
  obtain ⟨t0, x0, y0, rfl, _, _, _⟩ := isPose_of Tryd.underlying50 (by kernel_rfl) (by kernel_rfl) Tryd.underlying3 Tryd.underlying3 Tryd.underlying3 (hval 0 50 v0 rfl rfl) h0
  clear hA0 hval0
  refine (walk W (laid1_pose hL) t0 x0 y0).mono fun e W' ⟨he, bel⟩ => ?_
  subst he
  exact ⟨_, rfl, _, _, _, [], _, [], hW', trodAll_mk1 (shut_bool Tryd.underlying4 _), (trodAll_cons_mk (Below.trod laidOut (by kernel_rfl) (of_decide_eq_true (by kernel_rfl)) k0 bel lt0) trodAll_mk0), rfl, bel.frame _, fun h => by cases h⟩

theorem over : Rows.fnExactFormatPoseRow.holds Tryd.pinned (OpenSpec.ofChange Rows.fnExactFormatPoseSpec) :=
  OpenClaim.holds_of_wide 10 Tryd.f10 rfl rfl rfl rfl rfl rfl rfl ⟨rfl, rfl, rfl, rfl, rfl⟩ rfl rfl rfl rfl rfl (by kernel_rfl) Tryd.func10 (by kernel_rfl)
    (of_decide_eq_true (by kernel_rfl)) (by unfold Func.isWrapper; first | (rw [if_pos (by decide +kernel)]; kernel_rfl) | (rw [if_neg (by decide +kernel)]; exact ⟨rfl, rfl⟩))
    (fun os started H enc _ => lifted os started H enc)

theorem bare : Rows.FnExactFormatPoseSaid := over
theorem proved : Rows.FnExactFormatPoseCardSaid :=
  Claim7.holds_tied_plain_at .later [] [.data, .data, .data] true (true, "49dc16c195214d18f32f0d0e2af27782907544120f44ec4e732deecaf02b8adb") true
    bare (fun _ h => by cases h) (by kernel_rfl) (fun _ h => by cases h) fnExactFormatPose_row_tie rfl ⟨rfl, rfl⟩ (by kernel_rfl) rfl
    (fun f fn hf hfn => by
      obtain rfl : f = 10 := Option.some.inj ((show Tryd.prog.funcNamed "loop.example/g00810/laws.FnExactFormatPose" = some 10 by kernel_rfl).symm.trans hf) |>.symm
      obtain rfl : fn = Tryd.f10 := (Option.some.inj (Tryd.func10.symm.trans hfn)).symm
      exact ⟨by kernel_rfl, fun j t ht => by
        rw [Tryd.params10] at ht
        have hm : t ∈ [50] := by simpa using Array.mem_of_getElem? ht
        have hall : ([50].all fun u => !Tryd.prog.wantsStandIn u) = true := by kernel_rfl
        exact (show Tryd.prog.wantsStandIn t = false by simpa using List.all_eq_true.1 hall t hm)⟩)
    (by kernel_rfl)
#print axioms proved
end Go.Proofs.YtdilgjakodimbaaDoor.lawFormatPose
