/- Proved: at every slice of links and every integer, impl.ComponentOf answers as its model spec.ComponentOf in every result, writes into no argument, its answer owns its memory, the call returns true and changes no memory that was there. Conditions: none. -/
import Derived.Test.YtgjaennedihckaaGreatRows
import Derived.Test.YtgjaennedihckaaGreatB1
import Derived.Test.YtgjaennedihckaaGreatOpenL
import Derived.Test.YtgjaennedihckaaGreatMarkL
import Derived.Test.YtgjaennedihckaaGreatGraphS
import Derived.Test.YtgjaennedihckaaGreatNbr
import Derived.WalkKit
import Derived.ProofKit
import Derived.OpenShut
import Derived.ShutString
import Derived.ChangeOld
import Derived.Below
namespace Go.Proofs.YtgjaennedihckaaGreat.lawComponentOf
open Go.ChangeShapes Go.WideShapes Go.ChangeAt Go.RowKit
open Go.ChangeMaps (open_string shut_string)
set_option linter.unusedVariables false

theorem own : ownKnob Tryz.prog.godebug = none := by kernel_rfl
theorem laidOut : laidOutB Tryz.prog = true := by kernel_rfl
open Nt Fr

set_option maxRecDepth 100000 in
set_option maxHeartbeats 4000000 in
theorem walk (W : World) (a0 : Option Addr) (len0 cap0 : Nat) (z0 : List Lr) (w0 : IsLinks W a0 len0 cap0 z0) (a1 : Int) (w1 : (Lit.int .i64 a1).wf = true) :
    Calls Tryz.prog 5 #[.slice a0 len0 cap0, .int .i64 a1] W fun e w' => e = .returned (.bool true) ∧ Below W.heap.size W w' := by
  obtain ⟨hA, hcap, hcm⟩ := w0
  have hlm : len0 ≤ 9223372036854775807 := by unfold maxLen at hcm; omega
  have HZ := Lib.hid hA.1
  have HA := Lib.hid hA
  clear hA hcm
  have HW1 := Lib.hid w1
  have hb_1 : -9223372036854775808 ≤ a1 ∧ a1 ≤ 9223372036854775807 := by have h := bounds_i64 w1; omega
  clear w1
  obtain ⟨R, hR⟩ : ∃ q, compA z0 a1 = q := ⟨_, rfl⟩
  have HDR := Lib.hid hR
  clear hR
  have S_0 := Lib.hid (St.start W)
  go_enter Tryz.func5, Tryz.ntmps5
  go_wp2_with fail
  refine (szLinkS_any a0 len0 cap0 z0 1048576 _ (by omega) (by omega) (HA.out.below S_0.out.below) hlm).mono ?_
  rintro e w1_ ⟨rfl, hb⟩
  have S_1 := Lib.hid (S_0.out.call hb)
  clear S_0
  clear hb
  by_cases hs : (1048576 : Int) < ((len0 + lensL z0 : Nat) : Int)
  · rw [szOf_neg hs]
    go_wp2
    go_ret
    exact ⟨rfl, S_1.out.below⟩
  rw [szOf_pos hs]
  obtain ⟨left0, hq⟩ : ∃ q : Int, 1048576 - ((len0 + lensL z0 : Nat) : Int) = q := ⟨_, rfl⟩
  have hl0 : 0 ≤ left0 := by omega
  have HN := Lib.hid (show len0 + lensL z0 ≤ 1048576 by omega)
  have hl1 : len0 ≤ 1048576 := by omega
  rw [hq]
  clear hq hs
  go_wp2_with fail
  have hRlen : R.length ≤ 4194304 := by rw [← HDR.out]; exact compA_len _ _
  obtain ⟨nR, hnR⟩ : ∃ n, (ints R).length = n := ⟨_, rfl⟩
  have hnR1 : nR ≤ 4194304 := by rw [ints_len] at hnR; omega
  have HRL := Lib.hid hnR
  clear hnR hRlen
  refine (toLinkS_any a0 len0 cap0 z0 _ (HA.out.below S_1.out.below) HN.out).mono ?_
  rintro e w2_ ⟨bt, yt, rfl, hyl, hlk, hst⟩
  rw [HZ.out] at hyl ⊢
  have HYt := Lib.hid hyl
  have HKt := Lib.hid hlk
  have S_2 := Lib.hid (S_1.out.comp hst)
  clear S_1
  clear hyl hlk hst
  go_wp2_with fail
  have HLRt := Lib.hid (show compA yt a1 = R from (compA_like HYt.out HZ.out HKt.out).trans HDR.out)
  refine (componentOf_s (some ⟨bt, 0, none⟩) len0 len0 yt a1 _ (HYt.out ▸ S_2.out.larg 0 0 rfl rfl) hl1).mono ?_
  rintro e w3_ ⟨vw, rfl, ho, hb⟩
  rw [HLRt.out] at ho
  obtain ⟨Aw, cw, rfl⟩ := ho.shape
  rw [HRL.out] at ho ⊢
  have S_3 := Lib.hid (S_2.out.rows (Owns.one ho) hb)
  clear S_2
  clear ho hb
  go_wp2_with fail
  have S_4 := Lib.hid (S_3.out.dropBox 0)
  clear S_3
  have S_5 := Lib.hid (S_4.out.drop 1)
  clear S_4
  refine (toLinkS_any a0 len0 cap0 z0 _ (HA.out.below S_5.out.below) HN.out).mono ?_
  rintro e w4_ ⟨bx, yx, rfl, hyl, hlk, hst⟩
  rw [HZ.out] at hyl ⊢
  have HYx := Lib.hid hyl
  have HKx := Lib.hid hlk
  have S_6 := Lib.hid (S_5.out.comp hst)
  clear S_5
  clear hyl hlk hst
  go_wp2_with fail
  have HLRx := Lib.hid (show compA yx a1 = R from (compA_like HYx.out HZ.out HKx.out).trans HDR.out)
  refine (componentOf_i (some ⟨bx, 0, none⟩) len0 len0 yx a1 _ (HYx.out ▸ S_6.out.larg 0 0 rfl rfl) hl1 HW1.out).mono ?_
  rintro e w5_ ⟨vg, rfl, ho, hb⟩
  rw [HLRx.out] at ho
  obtain ⟨Ag, cg, rfl⟩ := ho.shape
  rw [HRL.out] at ho ⊢
  have S_7 := Lib.hid (S_6.out.rows (Owns.one ho) hb)
  clear S_6
  clear ho hb
  go_wp2_with fail
  refine (eqIntS_same Ag Aw nR cg cw R _ ((S_7.out.own 0 rfl).at_ 0 rfl).row ((S_7.out.own 2 rfl).at_ 0 rfl).row (by unfold maxLen; omega)).mono ?_
  rintro e w6_ ⟨rfl, hb⟩
  have S_8 := Lib.hid (S_7.out.call hb)
  clear S_7
  clear hb
  go_wp2_with fail
  refine (toLinkS_any a0 len0 cap0 z0 _ (HA.out.below S_8.out.below) HN.out).mono ?_
  rintro e w7_ ⟨bu, yu, rfl, hyl, hlk, hst⟩
  rw [HZ.out] at hyl ⊢
  have HYu := Lib.hid hyl
  have HKu := Lib.hid hlk
  have S_9 := Lib.hid (S_8.out.comp hst)
  clear S_8
  clear hyl hlk hst
  go_wp2_with fail
  refine (eqLinkS_same (some ⟨bx, 0, none⟩) (some ⟨bu, 0, none⟩) len0 len0 len0 yx yu _ (HYx.out ▸ S_9.out.lrow 1 2 rfl rfl) (HYu.out ▸ S_9.out.lrow 0 0 rfl rfl) (like_both HYx.out HYu.out HZ.out HKx.out HKu.out) hl1).mono ?_
  rintro e w8_ ⟨rfl, hb⟩
  have S_10 := Lib.hid (S_9.out.call hb)
  clear S_9
  clear hb
  have S_11 := Lib.hid (S_10.out.dropBox 0)
  clear S_10
  have S_12 := Lib.hid (S_11.out.drop 0)
  clear S_11
  go_wp2_with fail
  have S_13 := Lib.hid (S_12.out.front 0 1 rfl rfl)
  clear S_12
  have hll : lensL yx = lensL z0 := lensL_like HYx.out HZ.out HKx.out
  refine (markLinkS_f bx len0 len0 1 1 (by rfl) yx W _ _ _ HYx.out S_13.out (by rw [hll]; have := HN.out; omega)).mono ?_
  rintro e w9_ ⟨rfl, hst⟩
  rw [hll]
  clear hll S_13
  have S_14 := Lib.hid hst
  clear hst
  obtain ⟨km, hkm⟩ : ∃ q : Nat, 1 + 5 * len0 + lensL z0 = q := ⟨_, rfl⟩
  rw [hkm]
  have hkm1 : ((km : Nat) : Int) ≥ 0 := by omega
  have hkm0 : decide ((km : Int) < 0) = false := decide_eq_false (by omega)
  clear hkm
  have S_15 := Lib.hid (S_14.out.dropBox 0)
  clear S_14
  have S_16 := Lib.hid (S_15.out.drop 0)
  clear S_15
  go_wp2_with fail
  refine (eqIntS_same Ag Aw nR cg cw R _ ((S_16.out.own 0 rfl).at_ 0 rfl).row ((S_16.out.own 1 rfl).at_ 0 rfl).row (by unfold maxLen; omega)).mono ?_
  rintro e w10_ ⟨rfl, hb⟩
  have S_17 := Lib.hid (S_16.out.call hb)
  clear S_16
  clear hb
  go_wp2_with fail
  refine (markIntS_at Ag nR cg 1 W.heap.size 1 (by rfl) (ints R) _ ((S_17.out.own 0 rfl).at_ 0 rfl) (by omega)).mono ?_
  rintro e w11_ ⟨rfl, ho, hg⟩
  have S_18 := Lib.hid (S_17.out.mark 0 (l' := [(.slice Ag nR cg, marksI 1 nR)]) rfl rfl (Owns.one ho) (Turned.of_grown hg))
  clear S_17
  clear ho hg
  obtain ⟨mm, hmm⟩ : ∃ q : Nat, 1 + nR = q := ⟨_, rfl⟩
  rw [hmm]
  have HMM := Lib.hid hmm
  clear hmm
  go_wp2_with fail
  refine (heldIntS_at Ag nR cg 1 1 (by rfl) _ ((S_18.out.own 0 rfl).at_ 0 rfl).row (by omega)).mono ?_
  rintro e w12_ ⟨rfl, hb⟩
  have S_19 := Lib.hid (S_18.out.call hb)
  clear S_18
  clear hb
  rw [HMM.out]
  go_wp2_with fail
  refine (toLinkS_any a0 len0 cap0 z0 _ (HA.out.below S_19.out.below) HN.out).mono ?_
  rintro e w13_ ⟨bz, yz, rfl, hyl, hlk, hst⟩
  rw [HZ.out] at hyl ⊢
  have HYz := Lib.hid hyl
  have HKz := Lib.hid hlk
  have S_20 := Lib.hid (S_19.out.comp hst)
  clear S_19
  clear hyl hlk hst
  go_wp2_with fail
  have HLRz := Lib.hid (show compA yz a1 = R from (compA_like HYz.out HZ.out HKz.out).trans HDR.out)
  refine (componentOf_i (some ⟨bz, 0, none⟩) len0 len0 yz a1 _ (HYz.out ▸ S_20.out.larg 0 0 rfl rfl) hl1 HW1.out).mono ?_
  rintro e w14_ ⟨vh, rfl, ho, hb⟩
  rw [HLRz.out] at ho
  obtain ⟨Ah, ch, rfl⟩ := ho.shape
  rw [HRL.out] at ho ⊢
  have S_21 := Lib.hid (S_20.out.rows (Owns.one ho) hb)
  clear S_20
  clear ho hb
  go_wp2_with fail
  have S_22 := Lib.hid (S_21.out.dropBox 0)
  clear S_21
  have S_23 := Lib.hid (S_22.out.drop 1)
  clear S_22
  refine (eqIntS_same Ah Aw nR ch cw R _ ((S_23.out.own 0 rfl).at_ 0 rfl).row ((S_23.out.own 2 rfl).at_ 0 rfl).row (by unfold maxLen; omega)).mono ?_
  rintro e w15_ ⟨rfl, hb⟩
  have S_24 := Lib.hid (S_23.out.call hb)
  clear S_23
  clear hb
  go_wp2_with fail
  refine (heldIntS_at Ag nR cg 1 1 (by rfl) _ ((S_24.out.own 1 rfl).at_ 0 rfl).row (by omega)).mono ?_
  rintro e w16_ ⟨rfl, hb⟩
  have S_25 := Lib.hid (S_24.out.call hb)
  clear S_24
  clear hb
  rw [HMM.out]
  go_wp2
  go_ret
  exact ⟨rfl, S_25.out.below⟩

set_option maxRecDepth 100000 in
theorem lifted (os : Os) (started : os.Started) (H : Type) (enc : TypeId × Value → H) :
    ReturnsInHanded {} Tryz.checked os 5 .any (Rows.fnExactComponentOfSpec.pre6 enc Tryz.prog Tryz.f5 Rows.fnExactComponentOfRow.domain false) (Rows.fnExactComponentOfSpec.post enc Tryz.prog Tryz.f5 false true false false) := by
  refine returnsInHanded_of_change (C := Tryz.checked) own started (by kernel_rfl) Tryz.func5
    (ChangeSpec.witness6 (enc := enc) (C := Tryz.checked) false ⟨#[], #[.slice none 0 0, .int .i64 0], []⟩ 8 (by kernel_rfl) (by kernel_rfl) (by kernel_rfl) (by kernel_rfl)) ?_
  intro W base args ds gs before hval0 hW hcnd _
  have hval : ∀ (j : Nat) t v, Tryz.f5.params[j]? = some t → args[j]? = some v → Value.okWide Tryz.prog W .any base t v := hval0
  have hW' := hW
  obtain ⟨p, q, hA0, hV, rfl, hfz, hnd⟩ := hW
  have hA : DataW.TrodAll enc Tryz.prog W 0 (fun _ => true) true Tryz.f5.params.toList args.toList ds p := hA0
  rw [Tryz.params5] at hA hval
  obtain ⟨v0, vs0, d0, ds0, p0, q0, hargs, rfl, rfl, h0, r0⟩ := trodAll_cons hA
  obtain ⟨v1, vs1, d1, ds1, p1, q1, rfl, rfl, rfl, h1, r1⟩ := trodAll_cons r0
  obtain ⟨rfl, rfl, rfl⟩ := trodAll_nil r1
  obtain rfl : args = #[v0, v1] := by cases args; simp_all
  obtain ⟨rfl, rfl⟩ := trodVars_none hV
  obtain ⟨a0, len0, cap0, rfl⟩ := okWide_slice Tryz.underlying50 (hval 0 50 v0 rfl rfl)
  have k0 := h0
  have lt0 : ∀ x ∈ p0, x.block < W.heap.size := by obtain ⟨m, hm⟩ := k0; exact DataW.trod_lt m _ _ _ hm
  obtain ⟨z0, w0⟩ := isLinks_of linkT Tryz.underlying50 h0
  obtain ⟨a1, rfl, rfl, rfl, w1⟩ := open_int Tryz.underlying3 (hval 1 3 v1 rfl rfl) h1
  clear hA0 hval0
  refine (walk W a0 len0 cap0 z0 w0 a1 w1).mono fun e W' ⟨he, bel⟩ => ?_
  subst he
  exact ⟨_, rfl, _, _, _, [], _, [], hW', trodAll_mk1 (shut_bool Tryz.underlying4 _), (trodAll_cons_mk (Below.trod laidOut (by kernel_rfl) (of_decide_eq_true (by kernel_rfl)) k0 bel lt0) (trodAll_cons_mk (shut_int Tryz.underlying3 w1) trodAll_mk0)), rfl, bel.frame _, fun h => by cases h⟩

theorem over : Rows.fnExactComponentOfRow.holds Tryz.pinned (OpenSpec.ofChange Rows.fnExactComponentOfSpec) :=
  OpenClaim.holds_of_wide 5 Tryz.f5 rfl rfl rfl rfl rfl rfl rfl ⟨rfl, rfl, rfl, rfl, rfl⟩ rfl rfl rfl rfl rfl (by kernel_rfl) Tryz.func5 (by kernel_rfl)
    (of_decide_eq_true (by kernel_rfl)) (by unfold Func.isWrapper; first | (rw [if_pos (by decide +kernel)]; kernel_rfl) | (rw [if_neg (by decide +kernel)]; exact ⟨rfl, rfl⟩))
    (fun os started H enc _ => lifted os started H enc)

theorem proved : Rows.FnExactComponentOfSaid := over
#print axioms proved
end Go.Proofs.YtgjaennedihckaaGreat.lawComponentOf
