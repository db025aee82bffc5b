/- Proved: at every slice of slices of fractions and every integer, impl.IsMatrix answers as its model spec.IsMatrix, writes into no argument, the call returns true and changes no memory that was there. Conditions: none. -/
import Derived.Test.YtdchhkpkkfjibaaRows
import Derived.Test.YtdchhkpkkfjibaaB1
import Derived.Test.YtdchhkpkkfjibaaOpenL
import Derived.Test.YtdchhkpkkfjibaaMatAid
import Derived.WalkKit
import Derived.ProofKit
import Derived.OpenShut
import Derived.ShutString
import Derived.ChangeOld
import Derived.Below
namespace Go.Proofs.Ytdchhkpkkfjibaa.lawIsMatrix
open Go.ChangeShapes Go.WideShapes Go.ChangeAt Go.RowKit
open Go.ChangeMaps (open_string shut_string)
set_option linter.unusedVariables false

theorem own : ownKnob Try.prog.godebug = none := by kernel_rfl
theorem laidOut : laidOutB Try.prog = true := by kernel_rfl
open Nt Fr

set_option maxRecDepth 100000 in
set_option maxHeartbeats 4000000 in
theorem walk (W : World) (a0 : Option Addr) (len0 cap0 : Nat) (z0 : List Mr) (w0 : MRow W a0 len0 z0 ∧ len0 ≤ cap0 ∧ cap0 ≤ maxLen) (a1 : Int) (w1 : (Lit.int .i64 a1).wf = true) :
    Calls Try.prog 3 #[.slice a0 len0 cap0, .int .i64 a1] W fun e w' => e = .returned (.bool true) ∧ Below W.heap.size W w' := by
  obtain ⟨hA0, hcap0, hcm0⟩ := w0
  have hlm0 : len0 ≤ 9223372036854775807 := by unfold maxLen at hcm0; omega
  have HZ0 := Lib.hid hA0.len
  have HA0 := Lib.hid hA0
  clear hA0 hcm0 hcap0
  have hb_1 : -9223372036854775808 ≤ a1 ∧ a1 ≤ 9223372036854775807 := by have h := bounds_i64 w1; omega
  clear w1
  obtain ⟨ok, hok⟩ : ∃ q, okMat a1 (datm z0) = q := ⟨_, rfl⟩
  have HOK := Lib.hid hok
  clear hok
  have S_0 := Lib.hid (St.start W)
  go_enter Try.func3, Try.ntmps3
  go_wp2_with fail
  refine (szRatSS_any a0 len0 cap0 z0 1048576 _ (by omega) (by omega) (HA0.out.below S_0.out.below) hlm0).mono ?_
  rintro e w1_ ⟨rfl, hb⟩
  have S_1 := Lib.hid (S_0.out.call hb)
  clear S_0
  clear hb
  by_cases hs0 : (1048576 : Int) < ((len0 + lensM z0 : Nat) : Int)
  · rw [szOf_neg hs0]
    go_wp2
    go_ret
    exact ⟨rfl, S_1.out.below⟩
  rw [szOf_pos hs0]
  obtain ⟨left0, hq0⟩ : ∃ q : Int, 1048576 - ((len0 + lensM z0 : Nat) : Int) = q := ⟨_, rfl⟩
  have hl0 : 0 ≤ left0 ∧ left0 ≤ 1048576 := by omega
  have HN0 := Lib.hid (show len0 + lensM z0 ≤ 1048576 by omega)
  have hn0 : len0 ≤ 1048576 := by omega
  rw [hq0]
  clear hq0 hs0
  go_wp2_with fail
  refine (toRatSS_any a0 len0 cap0 z0 _ (HA0.out.below S_1.out.below) HN0.out).mono ?_
  rintro e w2_ ⟨bt, yt, rfl, hd, hsh, hst⟩
  rw [HZ0.out]
  have HDt := Lib.hid hd
  have HSt := Lib.hid hsh
  have HYt := Lib.hid (show yt.length = len0 by have h1 := congrArg List.length hd; simp only [datY, List.length_map, datm_len] at h1; rw [h1]; exact HZ0.out)
  have HMt := Lib.hid (rows_small HA0.out hd (by have := HN0.out; omega))
  have S_2 := Lib.hid (S_1.out.over hst)
  clear S_1
  clear hd hsh hst
  have S_3 := Lib.hid (show St W w2_ ((((bt, yt.map Yr.val) :: yt.map blkY) ++ [])) ((yt.map chkY ++ [])) from S_2.out)
  clear S_2
  go_wp2_with fail
  refine (isMatrix_s (some ⟨bt, 0, none⟩) len0 len0 (yt.map Yr.mr) a1 _ (HYt.out ▸ S_3.out.marg (by simp) (fun y hy => by simp [List.mem_map_of_mem hy]) (fun y hy => by simp [List.mem_map_of_mem hy]) HSt.out (fun y hy => Nat.le_trans (HMt.out y hy) (by unfold maxLen; omega))) hn0 (mr_small HMt.out)).mono ?_
  rintro e w3_ ⟨rfl, hb⟩
  have S_4 := Lib.hid (S_3.out.call hb)
  clear S_3
  clear hb
  rw [datm_mr, HDt.out, HOK.out]
  have S_5 := Lib.hid (show St W w3_ ([]) ([]) from S_4.out.sub (by simp) (by simp))
  clear S_4
  go_wp2_with fail
  refine (toRatSS_any a0 len0 cap0 z0 _ (HA0.out.below S_5.out.below) HN0.out).mono ?_
  rintro e w4_ ⟨bx, yx, rfl, hd, hsh, hst⟩
  rw [HZ0.out]
  have HDx := Lib.hid hd
  have HSx := Lib.hid hsh
  have HYx := Lib.hid (show yx.length = len0 by have h1 := congrArg List.length hd; simp only [datY, List.length_map, datm_len] at h1; rw [h1]; exact HZ0.out)
  have HMx := Lib.hid (rows_small HA0.out hd (by have := HN0.out; omega))
  have S_6 := Lib.hid (S_5.out.over hst)
  clear S_5
  clear hd hsh hst
  have S_7 := Lib.hid (show St W w4_ ((((bx, yx.map Yr.val) :: yx.map blkY) ++ [])) ((yx.map chkY ++ [])) from S_6.out)
  clear S_6
  go_wp2_with fail
  refine (isMatrix_i (some ⟨bx, 0, none⟩) len0 len0 (yx.map Yr.mr) a1 _ (HYx.out ▸ S_7.out.marg (by simp) (fun y hy => by simp [List.mem_map_of_mem hy]) (fun y hy => by simp [List.mem_map_of_mem hy]) HSx.out (fun y hy => Nat.le_trans (HMx.out y hy) (by unfold maxLen; omega))) hn0 (mr_small HMx.out)).mono ?_
  rintro e w5_ ⟨rfl, hb⟩
  have S_8 := Lib.hid (S_7.out.call hb)
  clear S_7
  clear hb
  rw [datm_mr, HDx.out, HOK.out]
  go_wp2_with fail
  refine (toRatSS_any a0 len0 cap0 z0 _ (HA0.out.below S_8.out.below) HN0.out).mono ?_
  rintro e w6_ ⟨bu, yu, rfl, hd, hsh, hst⟩
  rw [HZ0.out]
  have HDu := Lib.hid hd
  have HSu := Lib.hid hsh
  have HYu := Lib.hid (show yu.length = len0 by have h1 := congrArg List.length hd; simp only [datY, List.length_map, datm_len] at h1; rw [h1]; exact HZ0.out)
  have HMu := Lib.hid (rows_small HA0.out hd (by have := HN0.out; omega))
  have S_9 := Lib.hid (S_8.out.over hst)
  clear S_8
  clear hd hsh hst
  have S_10 := Lib.hid (show St W w6_ ((((bu, yu.map Yr.val) :: yu.map blkY) ++ (((bx, yx.map Yr.val) :: yx.map blkY) ++ []))) ((yu.map chkY ++ (yx.map chkY ++ []))) from S_9.out)
  clear S_9
  go_wp2_with fail
  refine (eqRatSS_same (some ⟨bx, 0, none⟩) (some ⟨bu, 0, none⟩) len0 len0 len0 _ _ _ (HYx.out ▸ S_10.out.marg (by simp) (fun y hy => by simp [List.mem_map_of_mem hy]) (fun y hy => by simp [List.mem_map_of_mem hy]) HSx.out (fun y hy => Nat.le_trans (HMx.out y hy) (by unfold maxLen; omega))).row (HYu.out ▸ S_10.out.marg (by simp) (fun y hy => by simp [List.mem_map_of_mem hy]) (fun y hy => by simp [List.mem_map_of_mem hy]) HSu.out (fun y hy => Nat.le_trans (HMu.out y hy) (by unfold maxLen; omega))).row ((datm_mr.trans HDx.out).trans (datm_mr.trans HDu.out).symm) hn0 (mr_small HMx.out)).mono ?_
  rintro e w7_ ⟨rfl, hb⟩
  have S_11 := Lib.hid (S_10.out.call hb)
  clear S_10
  clear hb
  go_wp2
  go_ret
  exact ⟨rfl, S_11.out.below⟩

set_option maxRecDepth 100000 in
theorem lifted (os : Os) (started : os.Started) (H : Type) (enc : TypeId × Value → H) :
    ReturnsInHanded {} Try.checked os 3 .any (Rows.fnExactIsMatrixSpec.pre6 enc Try.prog Try.f3 Rows.fnExactIsMatrixRow.domain false) (Rows.fnExactIsMatrixSpec.post enc Try.prog Try.f3 false true false false) := by
  refine returnsInHanded_of_change (C := Try.checked) own started (by kernel_rfl) Try.func3
    (ChangeSpec.witness6 (enc := enc) (C := Try.checked) false ⟨#[], #[.slice none 0 0, .int .i64 0], []⟩ 8 (by kernel_rfl) (by kernel_rfl) (by kernel_rfl) (by kernel_rfl)) ?_
  intro W base args ds gs before hval0 hW hcnd _
  have hval : ∀ (j : Nat) t v, Try.f3.params[j]? = some t → args[j]? = some v → Value.okWide Try.prog W .any base t v := hval0
  have hW' := hW
  obtain ⟨p, q, hA0, hV, rfl, hfz, hnd⟩ := hW
  have hA : DataW.TrodAll enc Try.prog W 0 (fun _ => true) true Try.f3.params.toList args.toList ds p := hA0
  rw [Try.params3] at hA hval
  obtain ⟨v0, vs0, d0, ds0, p0, q0, hargs, rfl, rfl, h0, r0⟩ := trodAll_cons hA
  obtain ⟨v1, vs1, d1, ds1, p1, q1, rfl, rfl, rfl, h1, r1⟩ := trodAll_cons r0
  obtain ⟨rfl, rfl, rfl⟩ := trodAll_nil r1
  obtain rfl : args = #[v0, v1] := by cases args; simp_all
  obtain ⟨rfl, rfl⟩ := trodVars_none hV
  obtain ⟨a0, len0, cap0, rfl⟩ := okWide_slice Try.underlying22 (hval 0 22 v0 rfl rfl)
  have k0 := h0
  have lt0 : ∀ x ∈ p0, x.block < W.heap.size := by obtain ⟨m, hm⟩ := k0; exact DataW.trod_lt m _ _ _ hm
  obtain ⟨z0, w0⟩ := isRatSS_of ratT Try.underlying30 (by kernel_rfl) Try.underlying22 h0
  obtain ⟨a1, rfl, rfl, rfl, w1⟩ := open_int Try.underlying3 (hval 1 3 v1 rfl rfl) h1
  clear hA0 hval0
  refine (walk W a0 len0 cap0 z0 w0 a1 w1).mono fun e W' ⟨he, bel⟩ => ?_
  subst he
  exact ⟨_, rfl, _, _, _, [], _, [], hW', trodAll_mk1 (shut_bool Try.underlying4 _), (trodAll_cons_mk (Below.trod laidOut (by kernel_rfl) (of_decide_eq_true (by kernel_rfl)) k0 bel lt0) (trodAll_cons_mk (shut_int Try.underlying3 w1) trodAll_mk0)), rfl, bel.frame _, fun h => by cases h⟩

theorem over : Rows.fnExactIsMatrixRow.holds Try.pinned (OpenSpec.ofChange Rows.fnExactIsMatrixSpec) :=
  OpenClaim.holds_of_wide 3 Try.f3 rfl rfl rfl rfl rfl rfl rfl ⟨rfl, rfl, rfl, rfl, rfl⟩ rfl rfl rfl rfl rfl (by kernel_rfl) Try.func3 (by kernel_rfl)
    (of_decide_eq_true (by kernel_rfl)) (by unfold Func.isWrapper; first | (rw [if_pos (by decide +kernel)]; kernel_rfl) | (rw [if_neg (by decide +kernel)]; exact ⟨rfl, rfl⟩))
    (fun os started H enc _ => lifted os started H enc)

theorem proved : Rows.FnExactIsMatrixSaid := over
#print axioms proved
end Go.Proofs.Ytdchhkpkkfjibaa.lawIsMatrix
