/- Proved: at every slice of links, impl.Bridges answers as its model spec.Bridges in every result, writes into no argument, its answer owns its memory, the call returns true and changes no memory that was there. Conditions: none. -/
import Derived.Test.YtgjaennedihckaaGreatRows
import Derived.Test.YtgjaennedihckaaGreatB1
import Derived.Test.YtgjaennedihckaaGreatOpenL
import Derived.Test.YtgjaennedihckaaGreatMarkL
import Derived.Test.YtgjaennedihckaaGreatBridgeS
import Derived.Test.YtgjaennedihckaaGreatNbr
import Derived.WalkKit
import Derived.ProofKit
import Derived.OpenShut
import Derived.ShutString
import Derived.ChangeOld
import Derived.Below
namespace Go.Proofs.YtgjaennedihckaaGreat.lawBridges
open Go.ChangeShapes Go.WideShapes Go.ChangeAt Go.RowKit
open Go.ChangeMaps (open_string shut_string)
set_option linter.unusedVariables false

theorem own : ownKnob Tryz.prog.godebug = none := by kernel_rfl
theorem laidOut : laidOutB Tryz.prog = true := by kernel_rfl
open Nt Fr

set_option maxRecDepth 100000 in
set_option maxHeartbeats 4000000 in
theorem walk (W : World) (a0 : Option Addr) (len0 cap0 : Nat) (z0 : List Lr) (w0 : IsLinks W a0 len0 cap0 z0) :
    Calls Tryz.prog 7 #[.slice a0 len0 cap0] W fun e w' => e = .returned (.bool true) ∧ Below W.heap.size W w' := by
  obtain ⟨hA, hcap, hcm⟩ := w0
  have hlm : len0 ≤ 9223372036854775807 := by unfold maxLen at hcm; omega
  have HZ := Lib.hid hA.1
  have HA := Lib.hid hA
  clear hA hcm
  obtain ⟨R, hR⟩ : ∃ q, brD (okSet z0) (dts z0) = q := ⟨_, rfl⟩
  have HDR := Lib.hid hR
  clear hR
  have S_0 := Lib.hid (St.start W)
  go_enter Tryz.func7, Tryz.ntmps7
  go_wp2_with fail
  refine (szLinkS_any a0 len0 cap0 z0 1048576 _ (by omega) (by omega) (HA.out.below S_0.out.below) hlm).mono ?_
  rintro e w1_ ⟨rfl, hb⟩
  have S_1 := Lib.hid (S_0.out.call hb)
  clear S_0
  clear hb
  by_cases hs : (1048576 : Int) < ((len0 + lensL z0 : Nat) : Int)
  · rw [szOf_neg hs]
    go_wp2
    go_ret
    exact ⟨rfl, S_1.out.below⟩
  rw [szOf_pos hs]
  obtain ⟨left0, hq⟩ : ∃ q : Int, 1048576 - ((len0 + lensL z0 : Nat) : Int) = q := ⟨_, rfl⟩
  have hl0 : 0 ≤ left0 := by omega
  have HN := Lib.hid (show len0 + lensL z0 ≤ 1048576 by omega)
  have hl1 : len0 ≤ 1048576 := by omega
  rw [hq]
  clear hq hs
  go_wp2_with fail
  have hRlen : R.length + lensD R ≤ 1048576 := by rw [← HDR.out]; exact brD_len (by rw [HZ.out]; exact HN.out)
  obtain ⟨nR, hnR⟩ : ∃ n, R.length = n := ⟨_, rfl⟩
  obtain ⟨mR, hmR⟩ : ∃ n, lensD R = n := ⟨_, rfl⟩
  rw [hnR, hmR] at hRlen
  have HRL := Lib.hid hnR
  have HML := Lib.hid hmR
  clear hnR hmR
  refine (toLinkS_any a0 len0 cap0 z0 _ (HA.out.below S_1.out.below) HN.out).mono ?_
  rintro e w2_ ⟨bt, yt, rfl, hyl, hlk, hst⟩
  rw [HZ.out] at hyl ⊢
  have HYt := Lib.hid hyl
  have HKt := Lib.hid hlk
  have S_2 := Lib.hid (S_1.out.comp hst)
  clear S_1
  clear hyl hlk hst
  go_wp2_with fail
  have HLRt := Lib.hid (show brD (okSet yt) (dts yt) = R from (brD_like HYt.out HZ.out HKt.out).trans HDR.out)
  refine (bridges_s (some ⟨bt, 0, none⟩) len0 len0 yt _ (HYt.out ▸ S_2.out.larg 0 0 rfl rfl) hl1 (Nat.le_refl _) hl1).mono ?_
  rintro e w3_ ⟨vw, yw, rfl, hd, hG⟩
  rw [HLRt.out] at hd
  obtain ⟨Aw, cw, bOw, cOw, rfl, hk, hst⟩ := hG.lks
  have hyl : yw.length = nR := by rw [← dts_len, hd]; exact HRL.out
  rw [hyl] at hk ⊢
  have HDw := Lib.hid hd
  have HQw := Lib.hid hk
  have HYLw := Lib.hid hyl
  have HMLw := Lib.hid (show lensL yw = mR by rw [← lensD_dts, hd]; exact HML.out)
  have S_3 := Lib.hid ((S_2.out.comp hst).swap)
  clear S_2
  clear hd hG hk hst hyl
  go_wp2_with fail
  have S_4 := Lib.hid (show St W w3_ ((bt, cellsL yt) :: (bOw)) (rowsL yt :: (cOw)) from S_3.out)
  clear S_3
  have S_5 := Lib.hid (S_4.out.dropBox 0)
  clear S_4
  have S_6 := Lib.hid (S_5.out.drop 0)
  clear S_5
  have S_7 := Lib.hid (show St W w3_ ((bOw)) ((cOw)) from S_6.out)
  clear S_6
  refine (toLinkS_any a0 len0 cap0 z0 _ (HA.out.below S_7.out.below) HN.out).mono ?_
  rintro e w4_ ⟨bx, yx, rfl, hyl, hlk, hst⟩
  rw [HZ.out] at hyl ⊢
  have HYx := Lib.hid hyl
  have HKx := Lib.hid hlk
  have S_8 := Lib.hid (S_7.out.comp hst)
  clear S_7
  clear hyl hlk hst
  go_wp2_with fail
  have S_9 := Lib.hid (show St W w4_ ((bx, cellsL yx) :: (bOw)) (rowsL yx :: (cOw)) from S_8.out)
  clear S_8
  have HLRx := Lib.hid (show brD (okSet yx) (dts yx) = R from (brD_like HYx.out HZ.out HKx.out).trans HDR.out)
  refine (bridges_i (some ⟨bx, 0, none⟩) len0 len0 yx _ (HYx.out ▸ S_9.out.larg 0 0 rfl rfl) hl1 (Nat.le_refl _) hl1).mono ?_
  rintro e w5_ ⟨vg, yg, rfl, hd, hG⟩
  rw [HLRx.out] at hd
  obtain ⟨Ag, cg, bOg, cOg, rfl, hk, hst⟩ := hG.lks
  have hyl : yg.length = nR := by rw [← dts_len, hd]; exact HRL.out
  rw [hyl] at hk ⊢
  have HDg := Lib.hid hd
  have HQg := Lib.hid hk
  have HYLg := Lib.hid hyl
  have HMLg := Lib.hid (show lensL yg = mR by rw [← lensD_dts, hd]; exact HML.out)
  have S_10 := Lib.hid ((S_9.out.comp hst).swap)
  clear S_9
  clear hd hG hk hst hyl
  go_wp2_with fail
  have S_11 := Lib.hid (show St W w5_ ((bx, cellsL yx) :: (bOw ++ bOg)) (rowsL yx :: (cOw ++ cOg)) from S_10.out)
  clear S_10
  refine (eqLinkS_same Ag Aw nR cg cw yg yw _ (S_11.out.lksRow HQg.out (fun p hp => by simp [hp]) (fun p hp => by simp [hp])) (S_11.out.lksRow HQw.out (fun p hp => by simp [hp]) (fun p hp => by simp [hp])) (like_dts (HDg.out.trans HDw.out.symm)) (by omega)).mono ?_
  rintro e w6_ ⟨rfl, hb⟩
  have S_12 := Lib.hid (S_11.out.call hb)
  clear S_11
  clear hb
  go_wp2_with fail
  refine (toLinkS_any a0 len0 cap0 z0 _ (HA.out.below S_12.out.below) HN.out).mono ?_
  rintro e w7_ ⟨bu, yu, rfl, hyl, hlk, hst⟩
  rw [HZ.out] at hyl ⊢
  have HYu := Lib.hid hyl
  have HKu := Lib.hid hlk
  have S_13 := Lib.hid (S_12.out.comp hst)
  clear S_12
  clear hyl hlk hst
  go_wp2_with fail
  have S_14 := Lib.hid (show St W w7_ ((bu, cellsL yu) :: (bx, cellsL yx) :: (bOw ++ bOg)) (rowsL yu :: rowsL yx :: (cOw ++ cOg)) from S_13.out)
  clear S_13
  refine (eqLinkS_same (some ⟨bx, 0, none⟩) (some ⟨bu, 0, none⟩) len0 len0 len0 yx yu _ (HYx.out ▸ S_14.out.lrow 1 1 rfl rfl) (HYu.out ▸ S_14.out.lrow 0 0 rfl rfl) (like_both HYx.out HYu.out HZ.out HKx.out HKu.out) hl1).mono ?_
  rintro e w8_ ⟨rfl, hb⟩
  have S_15 := Lib.hid (S_14.out.call hb)
  clear S_14
  clear hb
  have S_16 := Lib.hid (S_15.out.dropBox 0)
  clear S_15
  have S_17 := Lib.hid (S_16.out.drop 0)
  clear S_16
  have S_18 := Lib.hid (show St W w8_ ((bx, cellsL yx) :: (bOw ++ bOg)) (rowsL yx :: (cOw ++ cOg)) from S_17.out)
  clear S_17
  go_wp2_with fail
  have S_19 := Lib.hid (S_18.out.front 0 0 rfl rfl)
  clear S_18
  have hll : lensL yx = lensL z0 := lensL_like HYx.out HZ.out HKx.out
  refine (markLinkS_f bx len0 len0 1 1 (by rfl) yx W _ _ _ HYx.out S_19.out (by rw [hll]; have := HN.out; omega)).mono ?_
  rintro e w9_ ⟨rfl, hst⟩
  rw [hll]
  clear hll S_19
  have S_20 := Lib.hid hst
  clear hst
  obtain ⟨km, hkm⟩ : ∃ q : Nat, 1 + 5 * len0 + lensL z0 = q := ⟨_, rfl⟩
  rw [hkm]
  have hkm1 : ((km : Nat) : Int) ≥ 0 := by omega
  have hkm0 : decide ((km : Int) < 0) = false := decide_eq_false (by omega)
  clear hkm
  have S_21 := Lib.hid (S_20.out.dropBox 0)
  clear S_20
  have S_22 := Lib.hid (S_21.out.drop 0)
  clear S_21
  have S_23 := Lib.hid (show St W w9_ ((bOw ++ bOg)) ((cOw ++ cOg)) from S_22.out)
  clear S_22
  go_wp2_with fail
  refine (eqLinkS_same Ag Aw nR cg cw yg yw _ (S_23.out.lksRow HQg.out (fun p hp => by simp [hp]) (fun p hp => by simp [hp])) (S_23.out.lksRow HQw.out (fun p hp => by simp [hp]) (fun p hp => by simp [hp])) (like_dts (HDg.out.trans HDw.out.symm)) (by omega)).mono ?_
  rintro e w10_ ⟨rfl, hb⟩
  have S_24 := Lib.hid (S_23.out.call hb)
  clear S_23
  clear hb
  go_wp2_with fail
  have S_25 := Lib.hid (S_24.out.swap)
  clear S_24
  refine (markLinkS_o Ag nR cg 1 1 (by rfl) yg W _ bOg bOw cOg cOw HQg.out S_25.out (by rw [HMLg.out]; omega)).mono ?_
  rintro e w11_ ⟨rfl, bOm, cOm, hk, hst⟩
  rw [HMLg.out]
  have HQm := Lib.hid hk
  clear S_25
  have S_26 := Lib.hid hst
  clear hk hst
  obtain ⟨mm, hmm⟩ : ∃ q : Nat, 1 + 5 * nR + mR = q := ⟨_, rfl⟩
  rw [hmm]
  have HMM := Lib.hid hmm
  clear hmm
  go_wp2_with fail
  refine (heldLinkS_o Ag nR cg 1 1 (by rfl) yg W _ bOm _ cOm _ HYLg.out HQm.out S_26.out (by rw [HMLg.out]; omega)).mono ?_
  rintro e w12_ ⟨rfl, hb⟩
  have S_27 := Lib.hid (S_26.out.call hb)
  clear S_26
  clear hb
  rw [HMLg.out, HMM.out]
  go_wp2_with fail
  refine (toLinkS_any a0 len0 cap0 z0 _ (HA.out.below S_27.out.below) HN.out).mono ?_
  rintro e w13_ ⟨bz, yz, rfl, hyl, hlk, hst⟩
  rw [HZ.out] at hyl ⊢
  have HYz := Lib.hid hyl
  have HKz := Lib.hid hlk
  have S_28 := Lib.hid (S_27.out.comp hst)
  clear S_27
  clear hyl hlk hst
  go_wp2_with fail
  have S_29 := Lib.hid (show St W w13_ ((bz, cellsL yz) :: (bOm ++ bOw)) (rowsL yz :: (cOm ++ cOw)) from S_28.out)
  clear S_28
  have HLRz := Lib.hid (show brD (okSet yz) (dts yz) = R from (brD_like HYz.out HZ.out HKz.out).trans HDR.out)
  refine (bridges_i (some ⟨bz, 0, none⟩) len0 len0 yz _ (HYz.out ▸ S_29.out.larg 0 0 rfl rfl) hl1 (Nat.le_refl _) hl1).mono ?_
  rintro e w14_ ⟨vh, yh, rfl, hd, hG⟩
  rw [HLRz.out] at hd
  obtain ⟨Ah, ch, bOh, cOh, rfl, hk, hst⟩ := hG.lks
  have hyl : yh.length = nR := by rw [← dts_len, hd]; exact HRL.out
  rw [hyl] at hk ⊢
  have HDh := Lib.hid hd
  have HQh := Lib.hid hk
  have HYLh := Lib.hid hyl
  have HMLh := Lib.hid (show lensL yh = mR by rw [← lensD_dts, hd]; exact HML.out)
  have S_30 := Lib.hid ((S_29.out.comp hst).swap)
  clear S_29
  clear hd hG hk hst hyl
  go_wp2_with fail
  have S_31 := Lib.hid (show St W w14_ ((bz, cellsL yz) :: ((bOm ++ bOw) ++ bOh)) (rowsL yz :: ((cOm ++ cOw) ++ cOh)) from S_30.out)
  clear S_30
  have S_32 := Lib.hid (S_31.out.dropBox 0)
  clear S_31
  have S_33 := Lib.hid (S_32.out.drop 0)
  clear S_32
  have S_34 := Lib.hid (show St W w14_ ((bOm ++ bOw) ++ bOh) ((cOm ++ cOw) ++ cOh) from S_33.out)
  clear S_33
  have S_35 := Lib.hid (show St W w14_ (bOm ++ (bOw ++ bOh)) (cOm ++ (cOw ++ cOh)) from by have h := S_34.out; rw [List.append_assoc, List.append_assoc] at h; exact h)
  clear S_34
  refine (eqLinkS_same Ah Aw nR ch cw yh yw _ (S_35.out.lksRow HQh.out (fun p hp => by simp [hp]) (fun p hp => by simp [hp])) (S_35.out.lksRow HQw.out (fun p hp => by simp [hp]) (fun p hp => by simp [hp])) (like_dts (HDh.out.trans HDw.out.symm)) (by omega)).mono ?_
  rintro e w15_ ⟨rfl, hb⟩
  have S_36 := Lib.hid (S_35.out.call hb)
  clear S_35
  clear hb
  go_wp2_with fail
  refine (heldLinkS_o Ag nR cg 1 1 (by rfl) yg W _ bOm _ cOm _ HYLg.out HQm.out S_36.out (by rw [HMLg.out]; omega)).mono ?_
  rintro e w16_ ⟨rfl, hb⟩
  have S_37 := Lib.hid (S_36.out.call hb)
  clear S_36
  clear hb
  rw [HMLg.out, HMM.out]
  go_wp2
  go_ret
  exact ⟨rfl, S_37.out.below⟩

set_option maxRecDepth 100000 in
theorem lifted (os : Os) (started : os.Started) (H : Type) (enc : TypeId × Value → H) :
    ReturnsInHanded {} Tryz.checked os 7 .any (Rows.fnExactBridgesSpec.pre6 enc Tryz.prog Tryz.f7 Rows.fnExactBridgesRow.domain false) (Rows.fnExactBridgesSpec.post enc Tryz.prog Tryz.f7 false true false false) := by
  refine returnsInHanded_of_change (C := Tryz.checked) own started (by kernel_rfl) Tryz.func7
    (ChangeSpec.witness6 (enc := enc) (C := Tryz.checked) false ⟨#[], #[.slice none 0 0], []⟩ 8 (by kernel_rfl) (by kernel_rfl) (by kernel_rfl) (by kernel_rfl)) ?_
  intro W base args ds gs before hval0 hW hcnd _
  have hval : ∀ (j : Nat) t v, Tryz.f7.params[j]? = some t → args[j]? = some v → Value.okWide Tryz.prog W .any base t v := hval0
  have hW' := hW
  obtain ⟨p, q, hA0, hV, rfl, hfz, hnd⟩ := hW
  have hA : DataW.TrodAll enc Tryz.prog W 0 (fun _ => true) true Tryz.f7.params.toList args.toList ds p := hA0
  rw [Tryz.params7] at hA hval
  obtain ⟨v0, vs0, d0, ds0, p0, q0, hargs, rfl, rfl, h0, r0⟩ := trodAll_cons hA
  obtain ⟨rfl, rfl, rfl⟩ := trodAll_nil r0
  obtain rfl : args = #[v0] := by cases args; simp_all
  obtain ⟨rfl, rfl⟩ := trodVars_none hV
  obtain ⟨a0, len0, cap0, rfl⟩ := okWide_slice Tryz.underlying50 (hval 0 50 v0 rfl rfl)
  have k0 := h0
  have lt0 : ∀ x ∈ p0, x.block < W.heap.size := by obtain ⟨m, hm⟩ := k0; exact DataW.trod_lt m _ _ _ hm
  obtain ⟨z0, w0⟩ := isLinks_of linkT Tryz.underlying50 h0
  clear hA0 hval0
  refine (walk W a0 len0 cap0 z0 w0).mono fun e W' ⟨he, bel⟩ => ?_
  subst he
  exact ⟨_, rfl, _, _, _, [], _, [], hW', trodAll_mk1 (shut_bool Tryz.underlying4 _), (trodAll_cons_mk (Below.trod laidOut (by kernel_rfl) (of_decide_eq_true (by kernel_rfl)) k0 bel lt0) trodAll_mk0), rfl, bel.frame _, fun h => by cases h⟩

theorem over : Rows.fnExactBridgesRow.holds Tryz.pinned (OpenSpec.ofChange Rows.fnExactBridgesSpec) :=
  OpenClaim.holds_of_wide 7 Tryz.f7 rfl rfl rfl rfl rfl rfl rfl ⟨rfl, rfl, rfl, rfl, rfl⟩ rfl rfl rfl rfl rfl (by kernel_rfl) Tryz.func7 (by kernel_rfl)
    (of_decide_eq_true (by kernel_rfl)) (by unfold Func.isWrapper; first | (rw [if_pos (by decide +kernel)]; kernel_rfl) | (rw [if_neg (by decide +kernel)]; exact ⟨rfl, rfl⟩))
    (fun os started H enc _ => lifted os started H enc)

theorem proved : Rows.FnExactBridgesSaid := over
#print axioms proved
end Go.Proofs.YtgjaennedihckaaGreat.lawBridges
