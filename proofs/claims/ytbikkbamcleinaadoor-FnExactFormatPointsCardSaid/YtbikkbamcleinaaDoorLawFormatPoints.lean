/- Proved: at every slice of points, impl.FormatPoints answers as its model spec.FormatPoints, writes into no argument, the call returns true and changes no memory that was there; the listed variables of the library are tied to the text that lays them. Conditions: none. -/
import Derived.Test.YtbikkbamcleinaaDoorRows
import Derived.Test.YtbikkbamcleinaaDoorB1
import Derived.Test.YtbikkbamcleinaaDoorOpenL
import Derived.Test.YtbikkbamcleinaaDoorRecPoint
import Derived.Test.YtbikkbamcleinaaDoorPText
import Derived.Test.YtbikkbamcleinaaDoorPTextI
import Derived.Test.YtbikkbamcleinaaDoorLaidPts
import Derived.Test.YtbikkbamcleinaaDoorCards
import Derived.Test.YtbikkbamcleinaaDoorTie
import Derived.WalkKit
import Derived.ProofKit
import Derived.OpenShut
import Derived.ShutString
import Derived.ChangeOld
import Derived.Below
import Derived.LaidMore
import Derived.Stop.Joined
import Derived.SevenTiedAt
namespace Go.Proofs.YtbikkbamcleinaaDoor.lawFormatPoints
open Go.ChangeShapes Go.WideShapes Go.ChangeAt Go.RowKit
open Go.ChangeMaps (open_string shut_string)
set_option linter.unusedVariables false

theorem own : ownKnob Tryd.prog.godebug = none := by kernel_rfl
theorem laidOut : laidOutB Tryd.prog = true := by kernel_rfl
open Nt Fr

set_option maxRecDepth 100000 in
set_option maxHeartbeats 4000000 in
theorem walk (W : World) (hlaid : Laid1 W) (a0 : Option Addr) (len0 cap0 : Nat) (z0 : List Rc) (w0 : RRow 6 0 2 W a0 len0 z0 ∧ len0 ≤ cap0 ∧ cap0 ≤ maxLen) :
    Calls Tryd.prog 3 #[.slice a0 len0 cap0] W fun e w' => e = .returned (.bool true) ∧ Below W.heap.size W w' := by
  obtain ⟨hA, hcap0, hcm⟩ := w0
  have hlm0 : len0 ≤ 9223372036854775807 := by unfold maxLen at hcm; omega
  have HZ0 := Lib.hid hA.len
  have HA0 := Lib.hid hA
  have HLD := Lib.hid hlaid
  clear hA hcm hlaid
  obtain ⟨R, hR⟩ : ∃ q, fmtPts (dats z0) = q := ⟨_, rfl⟩
  have HR := Lib.hid hR
  clear hR
  have S_0 := Lib.hid (St.start W)
  go_enter Tryd.func3, Tryd.ntmps3
  go_wp2_with fail
  refine (szPointS_any a0 len0 cap0 z0 1048576 _ (by omega) (by omega) (HA0.out.below S_0.out.below) hlm0).mono ?_
  rintro e w1_ ⟨rfl, hb⟩
  have S_1 := Lib.hid (S_0.out.call hb)
  clear hb S_0
  by_cases hs : (1048576 : Int) < ((len0 + lensR z0 : Nat) : Int)
  · rw [szOf_neg hs]
    go_wp2
    go_ret
    exact ⟨rfl, S_1.out.below⟩
  rw [szOf_pos hs]
  obtain ⟨left0, hq⟩ : ∃ q : Int, 1048576 - ((len0 + lensR z0 : Nat) : Int) = q := ⟨_, rfl⟩
  have hl0 : 0 ≤ left0 ∧ left0 ≤ 1048576 := by omega
  have HN0 := Lib.hid (show len0 + lensR z0 ≤ 1048576 by omega)
  have hn0 : len0 ≤ 1048576 := by omega
  rw [hq]
  clear hq hs
  go_wp2_with fail
  refine (toPointS_any a0 len0 cap0 z0 _ (HA0.out.below S_1.out.below) HN0.out).mono ?_
  rintro e w2_ ⟨bt, yt, rfl, hd, hsh, hst⟩
  rw [HZ0.out]
  have HDt := Lib.hid hd
  have HSt := Lib.hid hsh
  have HYt := Lib.hid (show yt.length = len0 by rw [← dats_len, hd, dats_len]; exact HZ0.out)
  have S_2 := Lib.hid (S_1.out.over hst)
  clear hd hsh hst S_1
  go_wp2_with fail
  refine (formatPoints_s (some ⟨bt, 0, none⟩) len0 len0 yt _ (HYt.out ▸ S_2.out.rarg 0 0 HSt.out rfl rfl rfl) hn0).mono ?_
  rintro e w3_ ⟨rfl, hb⟩
  rw [HDt.out, HR.out]
  have S_3 := Lib.hid (S_2.out.call hb)
  clear hb S_2
  go_wp2_with fail
  refine (toPointS_any a0 len0 cap0 z0 _ (HA0.out.below S_3.out.below) HN0.out).mono ?_
  rintro e w4_ ⟨bx, yx, rfl, hd, hsh, hst⟩
  rw [HZ0.out]
  have HDx := Lib.hid hd
  have HSx := Lib.hid hsh
  have HYx := Lib.hid (show yx.length = len0 by rw [← dats_len, hd, dats_len]; exact HZ0.out)
  have S_4 := Lib.hid (S_3.out.over hst)
  clear hd hsh hst S_3
  go_wp2_with fail
  refine (formatPoints_i (some ⟨bx, 0, none⟩) len0 len0 yx _ (HYx.out ▸ S_4.out.rarg 0 0 HSx.out rfl rfl rfl) hn0 (HLD.out.below S_4.out.below)).mono ?_
  rintro e w5_ ⟨rfl, hb⟩
  rw [HDx.out, HR.out]
  have S_5 := Lib.hid (S_4.out.call hb)
  clear hb S_4
  go_wp2_with fail
  refine (toPointS_any a0 len0 cap0 z0 _ (HA0.out.below S_5.out.below) HN0.out).mono ?_
  rintro e w6_ ⟨bu, yu, rfl, hd, hsh, hst⟩
  rw [HZ0.out]
  have HDu := Lib.hid hd
  have HSu := Lib.hid hsh
  have HYu := Lib.hid (show yu.length = len0 by rw [← dats_len, hd, dats_len]; exact HZ0.out)
  have S_6 := Lib.hid (S_5.out.over hst)
  clear hd hsh hst S_5
  go_wp2_with fail
  refine (eqPointS_same (some ⟨bx, 0, none⟩) (some ⟨bu, 0, none⟩) len0 len0 len0 yx yu _ (HYx.out ▸ S_6.out.rrow 1 1 HSx.out rfl rfl rfl) (HYu.out ▸ S_6.out.rrow 0 0 HSu.out rfl rfl rfl) (HDx.out.trans HDu.out.symm) hn0).mono ?_
  rintro e w7_ ⟨rfl, hb⟩
  have S_7 := Lib.hid (S_6.out.call hb)
  clear hb S_6
  go_wp2
  go_ret
  exact ⟨rfl, S_7.out.below⟩

theorem door_met (os : Os) (args : Array Value) : laidMetH Tryd.prog Rows.fnExactFormatPointsRow.laid ((World.doorLaid Tryd.prog 400 os).forCall (fun _ _ => 0) ⟨#[], args, []⟩).memory :=
  laidMetH_of_parts3 (fuel := 8) (laidMet_of_run' 8 (by kernel_rfl) (by kernel_rfl)) (by kernel_rfl) (by kernel_rfl)
set_option maxRecDepth 100000 in
theorem lifted (os : Os) (started : os.Started) (H : Type) (enc : TypeId × Value → H) :
    ReturnsInHanded {} Tryd.checked os 3 .any (fun w args => (Rows.fnExactFormatPointsSpec.pre enc Tryd.prog Tryd.f3 [] false w args ∧ laidMetH Tryd.prog Rows.fnExactFormatPointsRow.laid w) ∧ sizedMet enc Tryd.prog Tryd.f3 (OpenSpec.ofChange Rows.fnExactFormatPointsSpec) false w args)
      (Rows.fnExactFormatPointsSpec.post enc Tryd.prog Tryd.f3 false true false false) := by
  refine returnsInHanded_of_change_and (C := Tryd.checked) (X := fun w _ => laidMetH Tryd.prog Rows.fnExactFormatPointsRow.laid w) (fun _ _ _ hh h => h.of_heap hh) own started (by kernel_rfl) Tryd.func3
    (ChangeSpec.witness_shaped (enc := enc) (C := Tryd.checked) (os := os) (X := fun w _ => laidMetH Tryd.prog Rows.fnExactFormatPointsRow.laid w) false (World.doorLaid Tryd.prog 400 os) #[.slice none 0 0] 8 rfl (World.shaped_of_RefB (by kernel_rfl) (by kernel_rfl)) (by kernel_rfl) (by kernel_rfl) (by kernel_rfl) (door_met os _)) ?_
  intro W base args ds gs before hval0 hW _ _ hL _
  have hval : ∀ (j : Nat) t v, Tryd.f3.params[j]? = some t → args[j]? = some v → Value.okWide Tryd.prog W .any base t v := hval0
  have hW' := hW
  obtain ⟨p, q, hA0, hV, rfl, hfz, hnd⟩ := hW
  have hA : DataW.TrodAll enc Tryd.prog W 0 (fun _ => true) true Tryd.f3.params.toList args.toList ds p := hA0
  rw [Tryd.params3] at hA hval
  obtain ⟨v0, vs0, d0, ds0, p0, q0, hargs, rfl, rfl, h0, r0⟩ := trodAll_cons hA
  obtain ⟨rfl, rfl, rfl⟩ := trodAll_nil r0
  obtain rfl : args = #[v0] := by cases args; simp_all
  obtain ⟨rfl, rfl⟩ := trodVars_none hV
  obtain ⟨a0, len0, cap0, rfl⟩ := okWide_slice Tryd.underlying22 (hval 0 22 v0 rfl rfl)
  have k0 := h0
  have lt0 : ∀ x ∈ p0, x.block < W.heap.size := by obtain ⟨m, hm⟩ := k0; exact DataW.trod_lt m _ _ _ hm
  obtain ⟨z0, w0⟩ := isPointS_of pointRcT_p Tryd.underlying22 h0
  clear hA0 hval0
  refine (walk W (laid1_pts hL) a0 len0 cap0 z0 w0).mono fun e W' ⟨he, bel⟩ => ?_
  subst he
  exact ⟨_, rfl, _, _, _, [], _, [], hW', trodAll_mk1 (shut_bool Tryd.underlying4 _), (trodAll_cons_mk (Below.trod laidOut (by kernel_rfl) (of_decide_eq_true (by kernel_rfl)) k0 bel lt0) trodAll_mk0), rfl, bel.frame _, fun h => by cases h⟩

theorem over : Rows.fnExactFormatPointsRow.holds Tryd.pinned (OpenSpec.ofChange Rows.fnExactFormatPointsSpec) :=
  OpenClaim.holds_of_wide 3 Tryd.f3 rfl rfl rfl rfl rfl rfl rfl ⟨rfl, rfl, rfl, rfl, rfl⟩ rfl rfl rfl rfl rfl (by kernel_rfl) Tryd.func3 (by kernel_rfl)
    (of_decide_eq_true (by kernel_rfl)) (by unfold Func.isWrapper; first | (rw [if_pos (by decide +kernel)]; kernel_rfl) | (rw [if_neg (by decide +kernel)]; exact ⟨rfl, rfl⟩))
    (fun os started H enc _ => lifted os started H enc)

theorem bare : Rows.FnExactFormatPointsSaid := over
theorem proved : Rows.FnExactFormatPointsCardSaid :=
  Claim7.holds_tied_plain_at .later [] [.data, .data, .data] true (true, "e63f7f64a0a5707b9a0ca9e241e72d760c77feb8e391a22203968f053b5583cd") false
    bare (fun _ h => by cases h) (by kernel_rfl) (fun _ h => by cases h) fnExactFormatPoints_row_tie rfl ⟨rfl, rfl⟩ (by kernel_rfl) rfl
    (fun f fn hf hfn => by
      obtain rfl : f = 3 := Option.some.inj ((show Tryd.prog.funcNamed "loop.example/g00810/laws.FnExactFormatPoints" = some 3 by kernel_rfl).symm.trans hf) |>.symm
      obtain rfl : fn = Tryd.f3 := (Option.some.inj (Tryd.func3.symm.trans hfn)).symm
      exact ⟨by kernel_rfl, fun j t ht => by
        rw [Tryd.params3] at ht
        have hm : t ∈ [22] := by simpa using Array.mem_of_getElem? ht
        have hall : ([22].all fun u => !Tryd.prog.wantsStandIn u) = true := by kernel_rfl
        exact (show Tryd.prog.wantsStandIn t = false by simpa using List.all_eq_true.1 hall t hm)⟩)
    (by kernel_rfl)
#print axioms proved
end Go.Proofs.YtbikkbamcleinaaDoor.lawFormatPoints
