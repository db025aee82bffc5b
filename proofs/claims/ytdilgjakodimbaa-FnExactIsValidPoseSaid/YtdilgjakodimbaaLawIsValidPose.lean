/- Proved: at every pose, impl.IsValidPose answers as its model spec.IsValidPose, the call returns true and changes no memory that was there. Conditions: none. -/
import Derived.Test.YtdilgjakodimbaaRows
import Derived.Test.YtdilgjakodimbaaOpenQ
import Derived.Test.YtdilgjakodimbaaPose1
import Derived.WalkKit
import Derived.ProofKit
import Derived.OpenShut
import Derived.ShutString
import Derived.ChangeOld
import Derived.Below
namespace Go.Proofs.Ytdilgjakodimbaa.lawIsValidPose
open Go.ChangeShapes Go.WideShapes Go.ChangeAt Go.RowKit
open Go.ChangeMaps (open_string shut_string)
set_option linter.unusedVariables false

theorem own : ownKnob Try.prog.godebug = none := by kernel_rfl
theorem laidOut : laidOutB Try.prog = true := by kernel_rfl
open Po

set_option maxRecDepth 100000 in
set_option maxHeartbeats 4000000 in
theorem walk (w : World) (t0 x0 y0 : Int) :
    Calls Try.prog 3 #[.agg #[.int .i64 t0, .int .i64 x0, .int .i64 y0]] w fun e w' => e = .returned (.bool true) ∧ Below w.heap.size w w' := by
  obtain ⟨k, hk⟩ : ∃ z, ok t0 x0 y0 = z := ⟨_, rfl⟩
  have HK := Lib.hid hk
  clear hk
  go_enter Try.func3, Try.ntmps3
  have HB_0 := Lib.hid ((Below.refl w.heap.size w).alloc (Nat.le_refl _) (.cells #[.int .i64 t0, .int .i64 x0, .int .i64 y0] 23))
  have K_a_0 := Lib.hid (HeldL.new_at w (w.heap.size) [.int .i64 t0, .int .i64 x0, .int .i64 y0] 23 (by first | rfl | simp))
  go_wp2_with fail
  refine (toPose_any t0 x0 y0 _).mono ?_
  rintro e w1 ⟨rfl, hb⟩
  have K_a_1 := Lib.hid (K_a_0.out.after hb)
  have HB_1 := Lib.hid (HB_0.out.trans (hb.mono HB_0.out.size))
  clear hb
  go_wp2_with fail
  refine (validP_spec t0 x0 y0 _).mono ?_
  rintro e w2 ⟨rfl, hb⟩
  rw [HK.out]
  have K_a_2 := Lib.hid (K_a_1.out.after hb)
  have HB_2 := Lib.hid (HB_1.out.trans (hb.mono HB_1.out.size))
  clear hb
  have hk_a_0_2 := K_a_2.out.cell 0 _ rfl
  have hk_a_1_2 := K_a_2.out.cell 1 _ rfl
  have hk_a_2_2 := K_a_2.out.cell 2 _ rfl
  go_wp2_with fail
  refine (toPose_any t0 x0 y0 _).mono ?_
  rintro e w3 ⟨rfl, hb⟩
  have K_a_3 := Lib.hid (K_a_2.out.after hb)
  have HB_3 := Lib.hid (HB_2.out.trans (hb.mono HB_2.out.size))
  clear hb
  clear hk_a_0_2
  clear hk_a_1_2
  clear hk_a_2_2
  go_wp2_with fail
  refine (validP_impl t0 x0 y0 _).mono ?_
  rintro e w4 ⟨rfl, hb⟩
  rw [HK.out]
  have K_a_4 := Lib.hid (K_a_3.out.after hb)
  have HB_4 := Lib.hid (HB_3.out.trans (hb.mono HB_3.out.size))
  clear hb
  cases k
  · go_wp2
    go_ret
    exact ⟨rfl, HB_4.out⟩
  · go_wp2
    go_ret
    exact ⟨rfl, HB_4.out⟩

set_option maxRecDepth 100000 in
theorem lifted (os : Os) (started : os.Started) (H : Type) (enc : TypeId × Value → H) :
    ReturnsInHanded {} Try.checked os 3 .any (Rows.fnExactIsValidPoseSpec.pre6 enc Try.prog Try.f3 Rows.fnExactIsValidPoseRow.domain false) (Rows.fnExactIsValidPoseSpec.post enc Try.prog Try.f3 false true false false) := by
  refine returnsInHanded_of_change (C := Try.checked) own started (by kernel_rfl) Try.func3
    (ChangeSpec.witness6 (enc := enc) (C := Try.checked) false ⟨#[], #[.agg #[.int .i64 0, .int .i64 0, .int .i64 0]], []⟩ 8 (by kernel_rfl) (by kernel_rfl) (by kernel_rfl) (by kernel_rfl)) ?_
  intro W base args ds gs before hval0 hW hcnd _
  have hval : ∀ (j : Nat) t v, Try.f3.params[j]? = some t → args[j]? = some v → Value.okWide Try.prog W .any base t v := hval0
  have hW' := hW
  obtain ⟨p, q, hA0, hV, rfl, hfz, hnd⟩ := hW
  have hA : DataW.TrodAll enc Try.prog W 0 (fun _ => true) true Try.f3.params.toList args.toList ds p := hA0
  rw [Try.params3] at hA hval
  obtain ⟨v0, vs0, d0, ds0, p0, q0, hargs, rfl, rfl, h0, r0⟩ := trodAll_cons hA
  obtain ⟨rfl, rfl, rfl⟩ := trodAll_nil r0
  obtain rfl : args = #[v0] := by cases args; simp_all
  obtain ⟨rfl, rfl⟩ := trodVars_none hV
  have k0 := h0
  have lt0 : ∀ x ∈ p0, x.block < W.heap.size := by obtain ⟨m, hm⟩ := k0; exact DataW.trod_lt m _ _ _ hm
  obtain ⟨t0, x0, y0, rfl, _, _, _⟩ := isPose_of Try.underlying23 (by kernel_rfl) (by kernel_rfl) Try.underlying3 Try.underlying3 Try.underlying3 (hval 0 23 v0 rfl rfl) h0
  clear hA0 hval0
  refine (walk W t0 x0 y0).mono fun e W' ⟨he, bel⟩ => ?_
  subst he
  exact ⟨_, rfl, _, _, _, [], _, [], hW', trodAll_mk1 (shut_bool Try.underlying4 _), (trodAll_cons_mk (Below.trod laidOut (by kernel_rfl) (of_decide_eq_true (by kernel_rfl)) k0 bel lt0) trodAll_mk0), rfl, bel.frame _, fun h => by cases h⟩

theorem over : Rows.fnExactIsValidPoseRow.holds Try.pinned (OpenSpec.ofChange Rows.fnExactIsValidPoseSpec) :=
  OpenClaim.holds_of_wide 3 Try.f3 rfl rfl rfl rfl rfl rfl rfl ⟨rfl, rfl, rfl, rfl, rfl⟩ rfl rfl rfl rfl rfl (by kernel_rfl) Try.func3 (by kernel_rfl)
    (of_decide_eq_true (by kernel_rfl)) (by unfold Func.isWrapper; first | (rw [if_pos (by decide +kernel)]; kernel_rfl) | (rw [if_neg (by decide +kernel)]; exact ⟨rfl, rfl⟩))
    (fun os started H enc _ => lifted os started H enc)

theorem proved : Rows.FnExactIsValidPoseSaid := over
#print axioms proved
end Go.Proofs.Ytdilgjakodimbaa.lawIsValidPose
