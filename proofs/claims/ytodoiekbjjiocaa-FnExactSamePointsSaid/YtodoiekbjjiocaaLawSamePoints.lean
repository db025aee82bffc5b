/- Proved: at every two slices of points, impl.SamePoints answers as its model spec.SamePoints, writes into no argument, the call returns true and changes no memory that was there. Conditions: none. -/
import Derived.Test.YtodoiekbjjiocaaRows
import Derived.Test.YtodoiekbjjiocaaB1
import Derived.Test.YtodoiekbjjiocaaOpenL
import Derived.Test.YtodoiekbjjiocaaRecPoint
import Derived.Test.YtodoiekbjjiocaaPSame
import Derived.WalkKit
import Derived.ProofKit
import Derived.OpenShut
import Derived.ShutString
import Derived.ChangeOld
import Derived.Below
namespace Go.Proofs.Ytodoiekbjjiocaa.lawSamePoints
open Go.ChangeShapes Go.WideShapes Go.ChangeAt Go.RowKit
open Go.ChangeMaps (open_string shut_string)
set_option linter.unusedVariables false

theorem own : ownKnob Try.prog.godebug = none := by kernel_rfl
theorem laidOut : laidOutB Try.prog = true := by kernel_rfl
open Nt Fr

set_option maxRecDepth 100000 in
set_option maxHeartbeats 4000000 in
theorem walk (W : World) (a0 : Option Addr) (len0 cap0 : Nat) (z0 : List Rc) (w0 : RRow 6 0 2 W a0 len0 z0 ∧ len0 ≤ cap0 ∧ cap0 ≤ maxLen) (a1 : Option Addr) (len1 cap1 : Nat) (z1 : List Rc) (w1 : RRow 6 0 2 W a1 len1 z1 ∧ len1 ≤ cap1 ∧ cap1 ≤ maxLen) :
    Calls Try.prog 3 #[.slice a0 len0 cap0, .slice a1 len1 cap1] W fun e w' => e = .returned (.bool true) ∧ Below W.heap.size W w' := by
  obtain ⟨hA, hcap0, hcm⟩ := w0
  have hlm0 : len0 ≤ 9223372036854775807 := by unfold maxLen at hcm; omega
  have HZ0 := Lib.hid hA.len
  have HA0 := Lib.hid hA
  clear hA hcm
  obtain ⟨hA, hcap1, hcm⟩ := w1
  have hlm1 : len1 ≤ 9223372036854775807 := by unfold maxLen at hcm; omega
  have HZ1 := Lib.hid hA.len
  have HA1 := Lib.hid hA
  clear hA hcm
  obtain ⟨R, hR⟩ : ∃ q, sameDps (dats z0) (dats z1) = q := ⟨_, rfl⟩
  have HD := Lib.hid hR
  clear hR
  have S_0 := Lib.hid (St.start W)
  go_enter Try.func3, Try.ntmps3
  go_wp2_with fail
  refine (szPointS_any a0 len0 cap0 z0 1048576 _ (by omega) (by omega) (HA0.out.below S_0.out.below) hlm0).mono ?_
  rintro e w1_ ⟨rfl, hb⟩
  have S_1 := Lib.hid (S_0.out.call hb)
  clear hb S_0
  by_cases hs : (1048576 : Int) < ((len0 + lensR z0 : Nat) : Int)
  · rw [szOf_neg hs]
    go_wp2
    go_ret
    exact ⟨rfl, S_1.out.below⟩
  rw [szOf_pos hs]
  obtain ⟨left0, hq⟩ : ∃ q : Int, 1048576 - ((len0 + lensR z0 : Nat) : Int) = q := ⟨_, rfl⟩
  have hl0 : 0 ≤ left0 ∧ left0 ≤ 1048576 := by omega
  have HN0 := Lib.hid (show len0 + lensR z0 ≤ 1048576 by omega)
  have hn0 : len0 ≤ 1048576 := by omega
  rw [hq]
  clear hq hs
  go_wp2_with fail
  refine (szPointS_any a1 len1 cap1 z1 left0 _ (by omega) (by omega) (HA1.out.below S_1.out.below) hlm1).mono ?_
  rintro e w2_ ⟨rfl, hb⟩
  have S_2 := Lib.hid (S_1.out.call hb)
  clear hb S_1
  by_cases hs : (left0 : Int) < ((len1 + lensR z1 : Nat) : Int)
  · rw [szOf_neg hs]
    go_wp2
    go_ret
    exact ⟨rfl, S_2.out.below⟩
  rw [szOf_pos hs]
  obtain ⟨left1, hq⟩ : ∃ q : Int, left0 - ((len1 + lensR z1 : Nat) : Int) = q := ⟨_, rfl⟩
  have hl1 : 0 ≤ left1 ∧ left1 ≤ 1048576 := by omega
  have HN1 := Lib.hid (show len1 + lensR z1 ≤ 1048576 by omega)
  have hn1 : len1 ≤ 1048576 := by omega
  rw [hq]
  clear hq hs
  go_wp2_with fail
  refine (toPointS_any a0 len0 cap0 z0 _ (HA0.out.below S_2.out.below) HN0.out).mono ?_
  rintro e w3_ ⟨bt, yt, rfl, hd, hsh, hst⟩
  rw [HZ0.out]
  have HDt := Lib.hid hd
  have HSt := Lib.hid hsh
  have HYt := Lib.hid (show yt.length = len0 by rw [← dats_len, hd, dats_len]; exact HZ0.out)
  have S_3 := Lib.hid (S_2.out.over hst)
  clear hd hsh hst S_2
  go_wp2_with fail
  refine (toPointS_any a1 len1 cap1 z1 _ (HA1.out.below S_3.out.below) HN1.out).mono ?_
  rintro e w4_ ⟨br, yr, rfl, hd, hsh, hst⟩
  rw [HZ1.out]
  have HDr := Lib.hid hd
  have HSr := Lib.hid hsh
  have HYr := Lib.hid (show yr.length = len1 by rw [← dats_len, hd, dats_len]; exact HZ1.out)
  have S_4 := Lib.hid (S_3.out.over hst)
  clear hd hsh hst S_3
  go_wp2_with fail
  refine (samePoints_s (some ⟨bt, 0, none⟩) (some ⟨br, 0, none⟩) len0 len1 len0 len1 yt yr _ (HYt.out ▸ S_4.out.rarg 1 1 HSt.out rfl rfl rfl) (HYr.out ▸ S_4.out.rarg 0 0 HSr.out rfl rfl rfl) hn0 hn1).mono ?_
  rintro e w5_ ⟨rfl, hb⟩
  rw [HDt.out, HDr.out, HD.out]
  have S_5 := Lib.hid (S_4.out.call hb)
  clear hb S_4
  go_wp2_with fail
  refine (toPointS_any a0 len0 cap0 z0 _ (HA0.out.below S_5.out.below) HN0.out).mono ?_
  rintro e w6_ ⟨bx, yx, rfl, hd, hsh, hst⟩
  rw [HZ0.out]
  have HDx := Lib.hid hd
  have HSx := Lib.hid hsh
  have HYx := Lib.hid (show yx.length = len0 by rw [← dats_len, hd, dats_len]; exact HZ0.out)
  have S_6 := Lib.hid (S_5.out.over hst)
  clear hd hsh hst S_5
  go_wp2_with fail
  refine (toPointS_any a1 len1 cap1 z1 _ (HA1.out.below S_6.out.below) HN1.out).mono ?_
  rintro e w7_ ⟨bg, yg, rfl, hd, hsh, hst⟩
  rw [HZ1.out]
  have HDg := Lib.hid hd
  have HSg := Lib.hid hsh
  have HYg := Lib.hid (show yg.length = len1 by rw [← dats_len, hd, dats_len]; exact HZ1.out)
  have S_7 := Lib.hid (S_6.out.over hst)
  clear hd hsh hst S_6
  go_wp2_with fail
  refine (samePoints_i (some ⟨bx, 0, none⟩) (some ⟨bg, 0, none⟩) len0 len1 len0 len1 yx yg _ (HYx.out ▸ S_7.out.rarg 1 1 HSx.out rfl rfl rfl) (HYg.out ▸ S_7.out.rarg 0 0 HSg.out rfl rfl rfl) hn0 hn1).mono ?_
  rintro e w8_ ⟨rfl, hb⟩
  rw [HDx.out, HDg.out, HD.out]
  have S_8 := Lib.hid (S_7.out.call hb)
  clear hb S_7
  go_wp2_with fail
  refine (toPointS_any a0 len0 cap0 z0 _ (HA0.out.below S_8.out.below) HN0.out).mono ?_
  rintro e w9_ ⟨bu, yu, rfl, hd, hsh, hst⟩
  rw [HZ0.out]
  have HDu := Lib.hid hd
  have HSu := Lib.hid hsh
  have HYu := Lib.hid (show yu.length = len0 by rw [← dats_len, hd, dats_len]; exact HZ0.out)
  have S_9 := Lib.hid (S_8.out.over hst)
  clear hd hsh hst S_8
  go_wp2_with fail
  refine (eqPointS_same (some ⟨bx, 0, none⟩) (some ⟨bu, 0, none⟩) len0 len0 len0 yx yu _ (HYx.out ▸ S_9.out.rrow 2 2 HSx.out rfl rfl rfl) (HYu.out ▸ S_9.out.rrow 0 0 HSu.out rfl rfl rfl) (HDx.out.trans HDu.out.symm) hn0).mono ?_
  rintro e w10_ ⟨rfl, hb⟩
  have S_10 := Lib.hid (S_9.out.call hb)
  clear hb S_9
  go_wp2_with fail
  refine (toPointS_any a1 len1 cap1 z1 _ (HA1.out.below S_10.out.below) HN1.out).mono ?_
  rintro e w11_ ⟨bv, yv, rfl, hd, hsh, hst⟩
  rw [HZ1.out]
  have HDv := Lib.hid hd
  have HSv := Lib.hid hsh
  have HYv := Lib.hid (show yv.length = len1 by rw [← dats_len, hd, dats_len]; exact HZ1.out)
  have S_11 := Lib.hid (S_10.out.over hst)
  clear hd hsh hst S_10
  go_wp2_with fail
  refine (eqPointS_same (some ⟨bg, 0, none⟩) (some ⟨bv, 0, none⟩) len1 len1 len1 yg yv _ (HYg.out ▸ S_11.out.rrow 2 2 HSg.out rfl rfl rfl) (HYv.out ▸ S_11.out.rrow 0 0 HSv.out rfl rfl rfl) (HDg.out.trans HDv.out.symm) hn1).mono ?_
  rintro e w12_ ⟨rfl, hb⟩
  have S_12 := Lib.hid (S_11.out.call hb)
  clear hb S_11
  go_wp2
  go_ret
  exact ⟨rfl, S_12.out.below⟩

set_option maxRecDepth 100000 in
theorem lifted (os : Os) (started : os.Started) (H : Type) (enc : TypeId × Value → H) :
    ReturnsInHanded {} Try.checked os 3 .any (Rows.fnExactSamePointsSpec.pre6 enc Try.prog Try.f3 Rows.fnExactSamePointsRow.domain false) (Rows.fnExactSamePointsSpec.post enc Try.prog Try.f3 false true false false) := by
  refine returnsInHanded_of_change (C := Try.checked) own started (by kernel_rfl) Try.func3
    (ChangeSpec.witness6 (enc := enc) (C := Try.checked) false ⟨#[], #[.slice none 0 0, .slice none 0 0], []⟩ 8 (by kernel_rfl) (by kernel_rfl) (by kernel_rfl) (by kernel_rfl)) ?_
  intro W base args ds gs before hval0 hW hcnd _
  have hval : ∀ (j : Nat) t v, Try.f3.params[j]? = some t → args[j]? = some v → Value.okWide Try.prog W .any base t v := hval0
  have hW' := hW
  obtain ⟨p, q, hA0, hV, rfl, hfz, hnd⟩ := hW
  have hA : DataW.TrodAll enc Try.prog W 0 (fun _ => true) true Try.f3.params.toList args.toList ds p := hA0
  rw [Try.params3] at hA hval
  obtain ⟨v0, vs0, d0, ds0, p0, q0, hargs, rfl, rfl, h0, r0⟩ := trodAll_cons hA
  obtain ⟨v1, vs1, d1, ds1, p1, q1, rfl, rfl, rfl, h1, r1⟩ := trodAll_cons r0
  obtain ⟨rfl, rfl, rfl⟩ := trodAll_nil r1
  obtain rfl : args = #[v0, v1] := by cases args; simp_all
  obtain ⟨rfl, rfl⟩ := trodVars_none hV
  obtain ⟨a0, len0, cap0, rfl⟩ := okWide_slice Try.underlying22 (hval 0 22 v0 rfl rfl)
  have k0 := h0
  have lt0 : ∀ x ∈ p0, x.block < W.heap.size := by obtain ⟨m, hm⟩ := k0; exact DataW.trod_lt m _ _ _ hm
  obtain ⟨z0, w0⟩ := isPointS_of pointRcT_p Try.underlying22 h0
  obtain ⟨a1, len1, cap1, rfl⟩ := okWide_slice Try.underlying22 (hval 1 22 v1 rfl rfl)
  have k1 := h1
  have lt1 : ∀ x ∈ p1, x.block < W.heap.size := by obtain ⟨m, hm⟩ := k1; exact DataW.trod_lt m _ _ _ hm
  obtain ⟨z1, w1⟩ := isPointS_of pointRcT_p Try.underlying22 h1
  clear hA0 hval0
  refine (walk W a0 len0 cap0 z0 w0 a1 len1 cap1 z1 w1).mono fun e W' ⟨he, bel⟩ => ?_
  subst he
  exact ⟨_, rfl, _, _, _, [], _, [], hW', trodAll_mk1 (shut_bool Try.underlying4 _), (trodAll_cons_mk (Below.trod laidOut (by kernel_rfl) (of_decide_eq_true (by kernel_rfl)) k0 bel lt0) (trodAll_cons_mk (Below.trod laidOut (by kernel_rfl) (of_decide_eq_true (by kernel_rfl)) k1 bel lt1) trodAll_mk0)), rfl, bel.frame _, fun h => by cases h⟩

theorem over : Rows.fnExactSamePointsRow.holds Try.pinned (OpenSpec.ofChange Rows.fnExactSamePointsSpec) :=
  OpenClaim.holds_of_wide 3 Try.f3 rfl rfl rfl rfl rfl rfl rfl ⟨rfl, rfl, rfl, rfl, rfl⟩ rfl rfl rfl rfl rfl (by kernel_rfl) Try.func3 (by kernel_rfl)
    (of_decide_eq_true (by kernel_rfl)) (by unfold Func.isWrapper; first | (rw [if_pos (by decide +kernel)]; kernel_rfl) | (rw [if_neg (by decide +kernel)]; exact ⟨rfl, rfl⟩))
    (fun os started H enc _ => lifted os started H enc)

theorem proved : Rows.FnExactSamePointsSaid := over
#print axioms proved
end Go.Proofs.Ytodoiekbjjiocaa.lawSamePoints
