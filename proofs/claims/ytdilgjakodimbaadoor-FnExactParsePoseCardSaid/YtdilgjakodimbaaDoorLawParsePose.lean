/- Proved: at every string, impl.ParsePose answers as its model spec.ParsePose in every result, the call returns true and changes no memory that was there; the listed variables of the library are tied to the text that lays them. Conditions: none. -/
import Derived.Test.YtdilgjakodimbaaDoorRows
import Derived.Test.YtdilgjakodimbaaDoorOpenP
import Derived.Test.YtdilgjakodimbaaDoorPoseParse2
import Derived.Test.YtdilgjakodimbaaDoorLaidD
import Derived.Test.YtdilgjakodimbaaDoorCards
import Derived.Test.YtdilgjakodimbaaDoorTie
import Derived.WalkKit
import Derived.ProofKit
import Derived.OpenShut
import Derived.ShutString
import Derived.ChangeOld
import Derived.Below
import Derived.OpenVars
import Derived.LaidMore
import Derived.Stop.Joined
import Derived.SevenTiedAt
namespace Go.Proofs.YtdilgjakodimbaaDoor.lawParsePose
open Go.ChangeShapes Go.WideShapes Go.ChangeAt Go.RowKit
open Go.ChangeMaps (open_string shut_string)
set_option linter.unusedVariables false

theorem own : ownKnob Tryd.prog.godebug = none := by kernel_rfl
theorem laidOut : laidOutB Tryd.prog = true := by kernel_rfl
open Po

set_option maxRecDepth 100000 in
set_option maxHeartbeats 4000000 in
theorem walk (w : World) (hlaid : Laid3 w) (a0 : ByteArray) (w0 : a0.size ≤ maxLen) :
    Calls Tryd.prog 11 #[.string a0] w fun e w' => e = .returned (.bool true) ∧ Below w.heap.size w w' := by
  have HL := Lib.hid hlaid
  clear hlaid
  unfold maxLen at w0
  by_cases hs : 1048576 < a0.size
  · go_enter Tryd.func11, Tryd.ntmps11
    go_wp2
    go_ret
    exact ⟨rfl, Below.refl _ _⟩
  · by_cases hq : IsPT a0
    · obtain ⟨t, x, y, hk, hst⟩ := hq
      have HK := Lib.hid hk
      have HS := Lib.hid hst
      clear hk hst
      have HB_0 := Lib.hid (Below.refl w.heap.size w)
      go_enter Tryd.func11, Tryd.ntmps11
      go_wp2_with fail
      refine ((parsePose_spec a0 _ (by omega)).mono (fun e w' h => parsedP_yes HK.out HS.out h)).mono ?_
      rintro e w1 ⟨rfl, hb⟩
      have HB_1 := Lib.hid (HB_0.out.trans (hb.mono HB_0.out.size))
      clear hb
      go_wp2_with fail
      have K_u_2 := Lib.hid (HeldL.new w1 [.int .i64 t, .int .i64 x, .int .i64 y] 24)
      have HB_2 := Lib.hid (HB_1.out.alloc HB_1.out.size (.cells #[.int .i64 t, .int .i64 x, .int .i64 y] 24))
      refine ((parsePose_impl a0 _ (by omega) (HL.out.below HB_2.out)).mono (fun e w' h => parsedP_yes HK.out HS.out h)).mono ?_
      rintro e w2 ⟨rfl, hb⟩
      have K_u_3 := Lib.hid (K_u_2.out.after hb)
      have HB_3 := Lib.hid (HB_2.out.trans (hb.mono HB_2.out.size))
      clear hb
      have hk_u_0_3 := K_u_3.out.cell 0 _ rfl
      have hk_u_1_3 := K_u_3.out.cell 1 _ rfl
      have hk_u_2_3 := K_u_3.out.cell 2 _ rfl
      have hlu := K_u_3.out.lt
      go_wp2_with fail
      clear hlu
      clear hk_u_0_3
      clear hk_u_1_3
      clear hk_u_2_3
      have K_u_4 := Lib.hid (K_u_3.out.alloc (.cells #[.int .i64 t, .int .i64 x, .int .i64 y] 24))
      have hne_u_g : w1.heap.size ≠ w2.heap.size := by have := K_u_3.out.lt; omega
      have hne_g_u : w2.heap.size ≠ w1.heap.size := by have := K_u_3.out.lt; omega
      have K_g_4 := Lib.hid (HeldL.new w2 [.int .i64 t, .int .i64 x, .int .i64 y] 24)
      have HB_4 := Lib.hid (HB_3.out.alloc HB_3.out.size (.cells #[.int .i64 t, .int .i64 x, .int .i64 y] 24))
      refine (eqPose_same t x y _).mono ?_
      rintro e w3 ⟨rfl, hb⟩
      have K_u_5 := Lib.hid (K_u_4.out.after hb)
      have K_g_5 := Lib.hid (K_g_4.out.after hb)
      have HB_5 := Lib.hid (HB_4.out.trans (hb.mono HB_4.out.size))
      clear hb
      go_wp2
      go_ret
      exact ⟨rfl, HB_5.out⟩
    · have HQ := Lib.hid hq
      clear hq
      have HB_0 := Lib.hid (Below.refl w.heap.size w)
      go_enter Tryd.func11, Tryd.ntmps11
      go_wp2_with fail
      refine ((parsePose_spec a0 _ (by omega)).mono (fun e w' h => parsedP_no HQ.out h)).mono ?_
      rintro e w1 ⟨rfl, hb⟩
      have HB_1 := Lib.hid (HB_0.out.trans (hb.mono HB_0.out.size))
      clear hb
      go_wp2_with fail
      have K_u_2 := Lib.hid (HeldL.new w1 [.int .i64 0, .int .i64 0, .int .i64 0] 24)
      have HB_2 := Lib.hid (HB_1.out.alloc HB_1.out.size (.cells #[.int .i64 0, .int .i64 0, .int .i64 0] 24))
      refine ((parsePose_impl a0 _ (by omega) (HL.out.below HB_2.out)).mono (fun e w' h => parsedP_no HQ.out h)).mono ?_
      rintro e w2 ⟨rfl, hb⟩
      have K_u_3 := Lib.hid (K_u_2.out.after hb)
      have HB_3 := Lib.hid (HB_2.out.trans (hb.mono HB_2.out.size))
      clear hb
      have hk_u_0_3 := K_u_3.out.cell 0 _ rfl
      have hk_u_1_3 := K_u_3.out.cell 1 _ rfl
      have hk_u_2_3 := K_u_3.out.cell 2 _ rfl
      have hlu := K_u_3.out.lt
      go_wp2_with fail
      clear hlu
      clear hk_u_0_3
      clear hk_u_1_3
      clear hk_u_2_3
      have K_u_4 := Lib.hid (K_u_3.out.alloc (.cells #[.int .i64 0, .int .i64 0, .int .i64 0] 24))
      have hne_u_g : w1.heap.size ≠ w2.heap.size := by have := K_u_3.out.lt; omega
      have hne_g_u : w2.heap.size ≠ w1.heap.size := by have := K_u_3.out.lt; omega
      have K_g_4 := Lib.hid (HeldL.new w2 [.int .i64 0, .int .i64 0, .int .i64 0] 24)
      have HB_4 := Lib.hid (HB_3.out.alloc HB_3.out.size (.cells #[.int .i64 0, .int .i64 0, .int .i64 0] 24))
      refine (eqPose_same 0 0 0 _).mono ?_
      rintro e w3 ⟨rfl, hb⟩
      have K_u_5 := Lib.hid (K_u_4.out.after hb)
      have K_g_5 := Lib.hid (K_g_4.out.after hb)
      have HB_5 := Lib.hid (HB_4.out.trans (hb.mono HB_4.out.size))
      clear hb
      go_wp2
      go_ret
      exact ⟨rfl, HB_5.out⟩

theorem door_met (os : Os) (args : Array Value) : laidMetH Tryd.prog Rows.fnExactParsePoseRow.laid ((World.doorLaid Tryd.prog 400 os).forCall (fun _ _ => 0) ⟨#[], args, []⟩).memory :=
  laidMetH_of_parts3 (fuel := 8) (laidMet_of_run' 8 (by kernel_rfl) (by kernel_rfl)) (by kernel_rfl) (by kernel_rfl)
set_option maxRecDepth 100000 in
theorem lifted (os : Os) (started : os.Started) (H : Type) (enc : TypeId × Value → H) :
    ReturnsInHanded {} Tryd.checked os 11 .any (fun w args => (Rows.fnExactParsePoseSpec.pre enc Tryd.prog Tryd.f11 [] false w args ∧ laidMetH Tryd.prog Rows.fnExactParsePoseRow.laid w) ∧ sizedMet enc Tryd.prog Tryd.f11 (OpenSpec.ofChange Rows.fnExactParsePoseSpec) false w args)
      (Rows.fnExactParsePoseSpec.post enc Tryd.prog Tryd.f11 false true false false) := by
  refine returnsInHanded_of_change_and (C := Tryd.checked) (X := fun w _ => laidMetH Tryd.prog Rows.fnExactParsePoseRow.laid w) (fun _ _ _ hh h => h.of_heap hh) own started (by kernel_rfl) Tryd.func11
    (ChangeSpec.witness_shaped (enc := enc) (C := Tryd.checked) (os := os) (X := fun w _ => laidMetH Tryd.prog Rows.fnExactParsePoseRow.laid w) false (World.doorLaid Tryd.prog 400 os) #[.string ByteArray.empty] 8 rfl (World.shaped_of_RefB (by kernel_rfl) (by kernel_rfl)) (by kernel_rfl) (by kernel_rfl) (by kernel_rfl) (door_met os _)) ?_
  intro W base args ds gs before hval0 hW _ _ hL _
  have hval : ∀ (j : Nat) t v, Tryd.f11.params[j]? = some t → args[j]? = some v → Value.okWide Tryd.prog W .any base t v := hval0
  have hW' := hW
  obtain ⟨p, q, hA0, hV, rfl, hfz, hnd⟩ := hW
  have hA : DataW.TrodAll enc Tryd.prog W 0 (fun _ => true) true Tryd.f11.params.toList args.toList ds p := hA0
  rw [Tryd.params11] at hA hval
  obtain ⟨v0, vs0, d0, ds0, p0, q0, hargs, rfl, rfl, h0, r0⟩ := trodAll_cons hA
  obtain ⟨rfl, rfl, rfl⟩ := trodAll_nil r0
  obtain rfl : args = #[v0] := by cases args; simp_all
  obtain ⟨rfl, rfl⟩ := trodVars_none hV
  obtain ⟨a0, rfl, rfl, rfl, w0⟩ := open_string Tryd.underlying9 (hval 0 9 v0 rfl rfl) h0
  clear hA0 hval0
  refine (walk W (laid3_pose hL) a0 w0).mono fun e W' ⟨he, bel⟩ => ?_
  subst he
  exact ⟨_, rfl, _, _, _, [], _, [], hW', trodAll_mk1 (shut_bool Tryd.underlying4 _), (trodAll_cons_mk (shut_string Tryd.underlying9 w0) trodAll_mk0), rfl, bel.frame _, fun h => by cases h⟩

theorem over : Rows.fnExactParsePoseRow.holds Tryd.pinned (OpenSpec.ofChange Rows.fnExactParsePoseSpec) :=
  OpenClaim.holds_of_wide 11 Tryd.f11 rfl rfl rfl rfl rfl rfl rfl ⟨rfl, rfl, rfl, rfl, rfl⟩ rfl rfl rfl rfl rfl (by kernel_rfl) Tryd.func11 (by kernel_rfl)
    (of_decide_eq_true (by kernel_rfl)) (by unfold Func.isWrapper; first | (rw [if_pos (by decide +kernel)]; kernel_rfl) | (rw [if_neg (by decide +kernel)]; exact ⟨rfl, rfl⟩))
    (fun os started H enc _ => lifted os started H enc)

theorem bare : Rows.FnExactParsePoseSaid := over
theorem proved : Rows.FnExactParsePoseCardSaid :=
  Claim7.holds_tied_plain_at .later [] [.data, .data, .data, .sentinel, .sentinel] true (true, "49dc16c195214d18f32f0d0e2af27782907544120f44ec4e732deecaf02b8adb") true
    bare (fun _ h => by cases h) (by kernel_rfl) (fun _ h => by cases h) fnExactParsePose_row_tie rfl ⟨rfl, rfl⟩ (by kernel_rfl) rfl
    (fun f fn hf hfn => by
      obtain rfl : f = 11 := Option.some.inj ((show Tryd.prog.funcNamed "loop.example/g00810/laws.FnExactParsePose" = some 11 by kernel_rfl).symm.trans hf) |>.symm
      obtain rfl : fn = Tryd.f11 := (Option.some.inj (Tryd.func11.symm.trans hfn)).symm
      exact ⟨by kernel_rfl, fun j t ht => by
        rw [Tryd.params11] at ht
        have hm : t ∈ [9] := by simpa using Array.mem_of_getElem? ht
        have hall : ([9].all fun u => !Tryd.prog.wantsStandIn u) = true := by kernel_rfl
        exact (show Tryd.prog.wantsStandIn t = false by simpa using List.all_eq_true.1 hall t hm)⟩)
    (by kernel_rfl)
#print axioms proved
end Go.Proofs.YtdilgjakodimbaaDoor.lawParsePose
