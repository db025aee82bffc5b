/- Proved: at every list of poses, impl.ComposeAll answers as its model spec.ComposeAll in every result, the call returns true and changes no memory that was there; the listed variable is tied to the text that lays it. Conditions: none. -/
import Derived.Test.YtdilgjakodimbaaDoorRows
import Derived.Test.YtdilgjakodimbaaDoorOpenP
import Derived.Test.YtdilgjakodimbaaDoorPose5
import Derived.Test.YtdilgjakodimbaaDoorPose6
import Derived.Test.YtdilgjakodimbaaDoorPose7
import Derived.Test.YtdilgjakodimbaaDoorOpenPs
import Derived.Test.YtdilgjakodimbaaDoorPoseAll
import Derived.Test.YtdilgjakodimbaaDoorCards
import Derived.Test.YtdilgjakodimbaaDoorTie
import Derived.WalkKit
import Derived.ProofKit
import Derived.OpenShut
import Derived.ShutString
import Derived.ChangeOld
import Derived.Below
import Derived.OpenVars
import Derived.LaidMore
import Derived.Stop.Joined
import Derived.SevenTiedAt
namespace Go.Proofs.YtdilgjakodimbaaDoor.lawComposeAll
open Go.ChangeShapes Go.WideShapes Go.ChangeAt Go.RowKit
open Go.ChangeMaps (open_string shut_string)
set_option linter.unusedVariables false

theorem own : ownKnob Tryd.prog.godebug = none := by kernel_rfl
theorem laidOut : laidOutB Tryd.prog = true := by kernel_rfl
open Po

set_option maxRecDepth 100000 in
set_option maxHeartbeats 4000000 in
theorem walk (w : World) (hlaid : LaidQ w) (a0 : Option Addr) (len0 cap0 : Nat) (z0 : List (Int × Int × Int)) (w0 : IsPoses w a0 len0 cap0 z0) :
    Calls Tryd.prog 9 #[.slice a0 len0 cap0] w fun e w' => e = .returned (.bool true) ∧ Below w.heap.size w w' := by
  obtain ⟨hA, hcap, hcm⟩ := w0
  have hlm : len0 ≤ 9223372036854775807 := by unfold maxLen at hcm; omega
  have HLN := Lib.hid hA.1
  have HA := Lib.hid hA
  clear hA hcap hcm
  have HL := Lib.hid hlaid
  clear hlaid
  obtain ⟨rt, hrt⟩ : ∃ z, (allP z0).1 = z := ⟨_, rfl⟩
  have Hrt := Lib.hid hrt
  clear hrt
  obtain ⟨rx, hrx⟩ : ∃ z, (allP z0).2.1 = z := ⟨_, rfl⟩
  have Hrx := Lib.hid hrx
  clear hrx
  obtain ⟨ry, hry⟩ : ∃ z, (allP z0).2.2 = z := ⟨_, rfl⟩
  have Hry := Lib.hid hry
  clear hry
  have HB_0 := Lib.hid (Below.refl w.heap.size w)
  go_enter Tryd.func9, Tryd.ntmps9
  go_wp2_with fail
  refine (szPoseS_any a0 len0 cap0 1048576 _ (by omega) (by omega) hlm).mono ?_
  rintro e w' ⟨rfl, hw⟩
  obtain rfl := hw.symm
  clear hw
  by_cases hs : (1048576 : Int) < len0
  · rw [show szP 1048576 len0 = -1 from if_pos hs]
    go_wp2
    go_ret
    exact ⟨rfl, Below.refl _ _⟩
  rw [show szP 1048576 len0 = 1048576 - len0 from if_neg hs]
  have hl20 : len0 ≤ 1048576 := by omega
  clear hs
  go_wp2_with fail
  refine (toPoseS_any a0 len0 cap0 z0 _ (HA.out.below HB_0.out (Nat.le_refl _)) hl20).mono ?_
  rintro e w1 ⟨b_t, rfl, hp, hb⟩
  rw [HLN.out] at hp ⊢
  have HB_1 := Lib.hid (HB_0.out.trans (hb.mono HB_0.out.size))
  clear hb
  have R_t_0 := Lib.hid hp
  clear hp
  go_wp2_with fail
  refine (composeAll_spec _ len0 len0 z0 _ R_t_0.out hl20).mono ?_
  rintro e w2 ⟨rfl, hb⟩
  rw [Hrt.out, Hrx.out, Hry.out]
  have HB_2 := Lib.hid (HB_1.out.trans (hb.mono HB_1.out.size))
  clear hb
  go_wp2_with fail
  have K_u_3 := Lib.hid (HeldL.new w2 [.int .i64 rt, .int .i64 rx, .int .i64 ry] 24)
  have HB_3 := Lib.hid (HB_2.out.alloc HB_2.out.size (.cells #[.int .i64 rt, .int .i64 rx, .int .i64 ry] 24))
  refine (toPoseS_any a0 len0 cap0 z0 _ (HA.out.below HB_3.out (Nat.le_refl _)) hl20).mono ?_
  rintro e w3 ⟨b_x, rfl, hp, hb⟩
  rw [HLN.out] at hp ⊢
  have K_u_4 := Lib.hid (K_u_3.out.after hb)
  have HB_4 := Lib.hid (HB_3.out.trans (hb.mono HB_3.out.size))
  clear hb
  have R_x_0 := Lib.hid hp
  clear hp
  go_wp2_with fail
  refine (composeAll_impl _ len0 len0 z0 _ R_x_0.out hl20 (HL.out.below HB_4.out)).mono ?_
  rintro e w4 ⟨rfl, hb⟩
  rw [Hrt.out, Hrx.out, Hry.out]
  have R_x_5 := Lib.hid (PRow.after (w := w3) R_x_0.out hb)
  clear R_x_0
  have K_u_5 := Lib.hid (K_u_4.out.after hb)
  have HB_5 := Lib.hid (HB_4.out.trans (hb.mono HB_4.out.size))
  clear hb
  have hk_u_0_5 := K_u_5.out.cell 0 _ rfl
  have hk_u_1_5 := K_u_5.out.cell 1 _ rfl
  have hk_u_2_5 := K_u_5.out.cell 2 _ rfl
  have hlu := K_u_5.out.lt
  go_wp2_with fail
  clear hlu
  clear hk_u_0_5
  clear hk_u_1_5
  clear hk_u_2_5
  have R_x_6 := Lib.hid (PRow.below R_x_5.out ((Below.refl _ w4).alloc (Nat.le_refl _) (.cells #[.int .i64 rt, .int .i64 rx, .int .i64 ry] 24)) (Nat.le_refl _))
  clear R_x_5
  have K_u_6 := Lib.hid (K_u_5.out.alloc (.cells #[.int .i64 rt, .int .i64 rx, .int .i64 ry] 24))
  have hne_u_g : w2.heap.size ≠ w4.heap.size := by have := K_u_5.out.lt; omega
  have hne_g_u : w4.heap.size ≠ w2.heap.size := by have := K_u_5.out.lt; omega
  have K_g_6 := Lib.hid (HeldL.new w4 [.int .i64 rt, .int .i64 rx, .int .i64 ry] 24)
  have HB_6 := Lib.hid (HB_5.out.alloc HB_5.out.size (.cells #[.int .i64 rt, .int .i64 rx, .int .i64 ry] 24))
  refine (eqPose_same rt rx ry _).mono ?_
  rintro e w5 ⟨rfl, hb⟩
  have R_x_7 := Lib.hid (PRow.after (w := (w4.alloc (.cells #[.int .i64 rt, .int .i64 rx, .int .i64 ry] 24))) R_x_6.out hb)
  clear R_x_6
  have K_u_7 := Lib.hid (K_u_6.out.after hb)
  have K_g_7 := Lib.hid (K_g_6.out.after hb)
  have HB_7 := Lib.hid (HB_6.out.trans (hb.mono HB_6.out.size))
  clear hb
  go_wp2_with fail
  refine (toPoseS_any a0 len0 cap0 z0 _ (HA.out.below HB_7.out (Nat.le_refl _)) hl20).mono ?_
  rintro e w6 ⟨b_y, rfl, hp, hb⟩
  rw [HLN.out] at hp ⊢
  have R_x_8 := Lib.hid (PRow.after (w := w5) R_x_7.out hb)
  clear R_x_7
  have K_u_8 := Lib.hid (K_u_7.out.after hb)
  have K_g_8 := Lib.hid (K_g_7.out.after hb)
  have HB_8 := Lib.hid (HB_7.out.trans (hb.mono HB_7.out.size))
  clear hb
  have R_y_0 := Lib.hid hp
  clear hp
  go_wp2_with fail
  refine (eqPoseS_same _ _ len0 len0 len0 z0 _ R_x_8.out R_y_0.out hl20).mono ?_
  rintro e w7 ⟨rfl, hb⟩
  have R_x_9 := Lib.hid (PRow.after (w := w6) R_x_8.out hb)
  clear R_x_8
  have R_y_9 := Lib.hid (PRow.after (w := w6) R_y_0.out hb)
  clear R_y_0
  have K_u_9 := Lib.hid (K_u_8.out.after hb)
  have K_g_9 := Lib.hid (K_g_8.out.after hb)
  have HB_9 := Lib.hid (HB_8.out.trans (hb.mono HB_8.out.size))
  clear hb
  go_wp2
  go_ret
  exact ⟨rfl, HB_9.out⟩

theorem door_met (os : Os) (args : Array Value) : laidMetH Tryd.prog Rows.fnExactComposeAllRow.laid ((World.doorLaid Tryd.prog 400 os).forCall (fun _ _ => 0) ⟨#[], args, []⟩).memory :=
  laidMetH_of_parts3 (fuel := 8) (laidMet_of_run' 8 (by kernel_rfl) (by kernel_rfl)) (by kernel_rfl) (by kernel_rfl)
set_option maxRecDepth 100000 in
theorem lifted (os : Os) (started : os.Started) (H : Type) (enc : TypeId × Value → H) :
    ReturnsInHanded {} Tryd.checked os 9 .any (fun w args => (Rows.fnExactComposeAllSpec.pre enc Tryd.prog Tryd.f9 [] false w args ∧ laidMetH Tryd.prog Rows.fnExactComposeAllRow.laid w) ∧ sizedMet enc Tryd.prog Tryd.f9 (OpenSpec.ofChange Rows.fnExactComposeAllSpec) false w args)
      (Rows.fnExactComposeAllSpec.post enc Tryd.prog Tryd.f9 false true false false) := by
  refine returnsInHanded_of_change_and (C := Tryd.checked) (X := fun w _ => laidMetH Tryd.prog Rows.fnExactComposeAllRow.laid w) (fun _ _ _ hh h => h.of_heap hh) own started (by kernel_rfl) Tryd.func9
    (ChangeSpec.witness_shaped (enc := enc) (C := Tryd.checked) (os := os) (X := fun w _ => laidMetH Tryd.prog Rows.fnExactComposeAllRow.laid w) false (World.doorLaid Tryd.prog 400 os) #[.slice none 0 0] 8 rfl (World.shaped_of_RefB (by kernel_rfl) (by kernel_rfl)) (by kernel_rfl) (by kernel_rfl) (by kernel_rfl) (door_met os _)) ?_
  intro W base args ds gs before hval0 hW _ _ hL _
  have hval : ∀ (j : Nat) t v, Tryd.f9.params[j]? = some t → args[j]? = some v → Value.okWide Tryd.prog W .any base t v := hval0
  have hW' := hW
  obtain ⟨p, q, hA0, hV, rfl, hfz, hnd⟩ := hW
  have hA : DataW.TrodAll enc Tryd.prog W 0 (fun _ => true) true Tryd.f9.params.toList args.toList ds p := hA0
  rw [Tryd.params9] at hA hval
  obtain ⟨v0, vs0, d0, ds0, p0, q0, hargs, rfl, rfl, h0, r0⟩ := trodAll_cons hA
  obtain ⟨rfl, rfl, rfl⟩ := trodAll_nil r0
  obtain rfl : args = #[v0] := by cases args; simp_all
  have hV0 : DataW.TrodVars enc Tryd.prog W (fun _ => true) ["loop.example/g00810/impl.quarterTurns"] gs q := hV
  obtain ⟨g9, t9, cs9, fuel9, d9, p9, rfl, _⟩ := trodVars_one hV0
  obtain ⟨a0, len0, cap0, rfl⟩ := okWide_slice Tryd.underlying55 (hval 0 55 v0 rfl rfl)
  have k0 := h0
  have lt0 : ∀ x ∈ p0, x.block < W.heap.size := by obtain ⟨m, hm⟩ := k0; exact DataW.trod_lt m _ _ _ hm
  obtain ⟨z0, w0⟩ := isPoses_of Tryd.underlying55 Tryd.underlying50 (by kernel_rfl) (by kernel_rfl) Tryd.underlying3 Tryd.underlying3 Tryd.underlying3 h0
  clear hA0 hval0
  refine (walk W (laidQ_only hL) a0 len0 cap0 z0 w0).mono fun e W' ⟨he, bel⟩ => ?_
  subst he
  exact ⟨_, rfl, _, _, _, [], _, q, hW', trodAll_mk1 (shut_bool Tryd.underlying4 _), (trodAll_cons_mk (Below.trod laidOut (by kernel_rfl) (of_decide_eq_true (by kernel_rfl)) k0 bel lt0) trodAll_mk0), (Below.trodVars laidOut bel (by kernel_rfl) hV0), bel.frame _, fun h => by cases h⟩

theorem over : Rows.fnExactComposeAllRow.holds Tryd.pinned (OpenSpec.ofChange Rows.fnExactComposeAllSpec) :=
  OpenClaim.holds_of_wide 9 Tryd.f9 rfl rfl rfl rfl rfl rfl rfl ⟨rfl, rfl, rfl, rfl, rfl⟩ rfl rfl rfl rfl rfl (by kernel_rfl) Tryd.func9 (by kernel_rfl)
    (of_decide_eq_true (by kernel_rfl)) (by unfold Func.isWrapper; first | (rw [if_pos (by decide +kernel)]; kernel_rfl) | (rw [if_neg (by decide +kernel)]; exact ⟨rfl, rfl⟩))
    (fun os started H enc _ => lifted os started H enc)

theorem bare : Rows.FnExactComposeAllSaid := over
theorem proved : Rows.FnExactComposeAllCardSaid :=
  Claim7.holds_tied_plain_at .later [] [.wider] true (true, "49dc16c195214d18f32f0d0e2af27782907544120f44ec4e732deecaf02b8adb") true
    bare (fun _ h => by cases h) (by kernel_rfl) (fun _ h => by cases h) fnExactComposeAll_row_tie rfl ⟨rfl, rfl⟩ (by kernel_rfl) rfl
    (fun f fn hf hfn => by
      obtain rfl : f = 9 := Option.some.inj ((show Tryd.prog.funcNamed "loop.example/g00810/laws.FnExactComposeAll" = some 9 by kernel_rfl).symm.trans hf) |>.symm
      obtain rfl : fn = Tryd.f9 := (Option.some.inj (Tryd.func9.symm.trans hfn)).symm
      exact ⟨by kernel_rfl, fun j t ht => by
        rw [Tryd.params9] at ht
        have hm : t ∈ [55] := by simpa using Array.mem_of_getElem? ht
        have hall : ([55].all fun u => !Tryd.prog.wantsStandIn u) = true := by kernel_rfl
        exact (show Tryd.prog.wantsStandIn t = false by simpa using List.all_eq_true.1 hall t hm)⟩)
    (by kernel_rfl)
#print axioms proved
end Go.Proofs.YtdilgjakodimbaaDoor.lawComposeAll
