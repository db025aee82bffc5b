/- Proved: at every slice of links and every slice of integers, impl.IsOrder answers as its model spec.IsOrder, writes into no argument, the call returns true and changes no memory that was there. Conditions: none. -/
import Derived.Test.YtgmgdbnfmlmicaaGreatRows
import Derived.Test.YtgmgdbnfmlmicaaGreatB1
import Derived.Test.YtgmgdbnfmlmicaaGreatOpenL
import Derived.Test.YtgmgdbnfmlmicaaGreatSetAid
import Derived.Test.YtgmgdbnfmlmicaaGreatOrder
import Derived.WalkKit
import Derived.ProofKit
import Derived.OpenShut
import Derived.ShutString
import Derived.ChangeOld
import Derived.Below
namespace Go.Proofs.YtgmgdbnfmlmicaaGreat.lawIsOrder
open Go.ChangeShapes Go.WideShapes Go.ChangeAt Go.RowKit
open Go.ChangeMaps (open_string shut_string)
set_option linter.unusedVariables false

theorem own : ownKnob Tryz.prog.godebug = none := by kernel_rfl
theorem laidOut : laidOutB Tryz.prog = true := by kernel_rfl
open Nt Fr

set_option maxRecDepth 100000 in
set_option maxHeartbeats 4000000 in
theorem walk (W : World) (a0 : Option Addr) (len0 cap0 : Nat) (z0 : List Lr) (w0 : IsLinks W a0 len0 cap0 z0) (a1 : Option Addr) (len1 cap1 : Nat) (z1 : List Int) (w1 : IsInts .i64 W a1 len1 cap1 z1) :
    Calls Tryz.prog 4 #[.slice a0 len0 cap0, .slice a1 len1 cap1] W fun e w' => e = .returned (.bool true) ∧ Below W.heap.size W w' := by
  obtain ⟨hA1, hcap1, hcm1, hzs1⟩ := w1
  have HZ1 := Lib.hid (show (ints z1).length = len1 from hA1.1)
  have HA1 := Lib.hid (show VRow W a1 len1 (ints z1) from hA1)
  have hlm1 : len1 ≤ 9223372036854775807 := by unfold maxLen at hcm1; omega
  clear hA1 hzs1 hcm1
  by_cases hs1 : 1048576 < len1
  · go_enter Tryz.func4, Tryz.ntmps4
    go_wp2
    go_ret
    exact ⟨rfl, Below.refl _ _⟩
  obtain ⟨hA, hcap, hcm⟩ := w0
  have hlm : len0 ≤ 9223372036854775807 := by unfold maxLen at hcm; omega
  have HZ := Lib.hid hA.1
  have HA := Lib.hid hA
  clear hA hcm
  obtain ⟨R, hR⟩ : ∃ q, ordA z0 z1 = q := ⟨_, rfl⟩
  have HDR := Lib.hid hR
  clear hR
  have S_0 := Lib.hid (St.start W)
  go_enter Tryz.func4, Tryz.ntmps4
  go_wp2_with fail
  refine (szLinkS_any a0 len0 cap0 z0 1048576 _ (by omega) (by omega) (HA.out.below S_0.out.below) hlm).mono ?_
  rintro e w1_ ⟨rfl, hb⟩
  have S_1 := Lib.hid (S_0.out.call hb)
  clear S_0
  clear hb
  by_cases hs : (1048576 : Int) < ((len0 + lensL z0 : Nat) : Int)
  · rw [szOf_neg hs]
    go_wp2
    go_ret
    exact ⟨rfl, S_1.out.below⟩
  rw [szOf_pos hs]
  obtain ⟨left0, hq⟩ : ∃ q : Int, 1048576 - ((len0 + lensL z0 : Nat) : Int) = q := ⟨_, rfl⟩
  have hl0 : 0 ≤ left0 := by omega
  have HN := Lib.hid (show len0 + lensL z0 ≤ 1048576 by omega)
  have hl1 : len0 ≤ 1048576 := by omega
  rw [hq]
  clear hq hs
  go_wp2_with fail
  refine (toLinkS_any a0 len0 cap0 z0 _ (HA.out.below S_1.out.below) HN.out).mono ?_
  rintro e w2_ ⟨bt, yt, rfl, hyl, hlk, hst⟩
  rw [HZ.out] at hyl ⊢
  have HYt := Lib.hid hyl
  have HKt := Lib.hid hlk
  have S_2 := Lib.hid (S_1.out.comp hst)
  clear S_1
  clear hyl hlk hst
  go_wp2_with fail
  refine (toIntS_any a1 len1 cap1 z1 _ (HA1.out.below S_2.out.below (Nat.le_refl _)) (by omega)).mono ?_
  rintro e w3_ ⟨vp, rfl, ho, hb⟩
  obtain ⟨Ap, cp, rfl⟩ := ho.shape
  rw [HZ1.out] at ho ⊢
  have S_3 := Lib.hid (S_2.out.rows (Owns.one ho) hb)
  clear S_2
  clear ho hb
  go_wp2_with fail
  have HLRt := Lib.hid (show ordA yt z1 = R from (ordA_like HYt.out HZ.out HKt.out).trans HDR.out)
  refine (isOrder_s (some ⟨bt, 0, none⟩) Ap len0 len0 len1 cp yt z1 _ (HYt.out ▸ S_3.out.larg 0 1 rfl rfl) ((S_3.out.own 0 rfl).at_ 0 rfl).row hl1 (by omega)).mono ?_
  rintro e w4_ ⟨rfl, hb⟩
  have S_4 := Lib.hid (S_3.out.call hb)
  clear S_3
  clear hb
  rw [HLRt.out]
  go_wp2_with fail
  have S_5 := Lib.hid (S_4.out.drop 0)
  clear S_4
  have S_6 := Lib.hid (S_5.out.dropBox 0)
  clear S_5
  have S_7 := Lib.hid (S_6.out.drop 0)
  clear S_6
  refine (toLinkS_any a0 len0 cap0 z0 _ (HA.out.below S_7.out.below) HN.out).mono ?_
  rintro e w5_ ⟨bx, yx, rfl, hyl, hlk, hst⟩
  rw [HZ.out] at hyl ⊢
  have HYx := Lib.hid hyl
  have HKx := Lib.hid hlk
  have S_8 := Lib.hid (S_7.out.comp hst)
  clear S_7
  clear hyl hlk hst
  go_wp2_with fail
  refine (toIntS_any a1 len1 cap1 z1 _ (HA1.out.below S_8.out.below (Nat.le_refl _)) (by omega)).mono ?_
  rintro e w6_ ⟨vq, rfl, ho, hb⟩
  obtain ⟨Aq, cq, rfl⟩ := ho.shape
  rw [HZ1.out] at ho ⊢
  have S_9 := Lib.hid (S_8.out.rows (Owns.one ho) hb)
  clear S_8
  clear ho hb
  go_wp2_with fail
  have HLRx := Lib.hid (show ordA yx z1 = R from (ordA_like HYx.out HZ.out HKx.out).trans HDR.out)
  refine (isOrder_i (some ⟨bx, 0, none⟩) Aq len0 len0 len1 cq yx z1 _ (HYx.out ▸ S_9.out.larg 0 1 rfl rfl) ((S_9.out.own 0 rfl).at_ 0 rfl).row hl1 (by omega)).mono ?_
  rintro e w7_ ⟨rfl, hb⟩
  have S_10 := Lib.hid (S_9.out.call hb)
  clear S_9
  clear hb
  rw [HLRx.out]
  go_wp2_with fail
  refine (toLinkS_any a0 len0 cap0 z0 _ (HA.out.below S_10.out.below) HN.out).mono ?_
  rintro e w8_ ⟨bu, yu, rfl, hyl, hlk, hst⟩
  rw [HZ.out] at hyl ⊢
  have HYu := Lib.hid hyl
  have HKu := Lib.hid hlk
  have S_11 := Lib.hid (S_10.out.comp hst)
  clear S_10
  clear hyl hlk hst
  go_wp2_with fail
  refine (eqLinkS_same (some ⟨bx, 0, none⟩) (some ⟨bu, 0, none⟩) len0 len0 len0 yx yu _ (HYx.out ▸ S_11.out.lrow 1 2 rfl rfl) (HYu.out ▸ S_11.out.lrow 0 0 rfl rfl) (like_both HYx.out HYu.out HZ.out HKx.out HKu.out) hl1).mono ?_
  rintro e w9_ ⟨rfl, hb⟩
  have S_12 := Lib.hid (S_11.out.call hb)
  clear S_11
  clear hb
  have S_13 := Lib.hid (S_12.out.dropBox 0)
  clear S_12
  have S_14 := Lib.hid (S_13.out.drop 0)
  clear S_13
  go_wp2_with fail
  refine (toIntS_any a1 len1 cap1 z1 _ (HA1.out.below S_14.out.below (Nat.le_refl _)) (by omega)).mono ?_
  rintro e w10_ ⟨vr, rfl, ho, hb⟩
  obtain ⟨Ar, cr, rfl⟩ := ho.shape
  rw [HZ1.out] at ho ⊢
  have S_15 := Lib.hid (S_14.out.rows (Owns.one ho) hb)
  clear S_14
  clear ho hb
  go_wp2_with fail
  refine (eqIntS_same Aq Ar len1 cq cr z1 _ ((S_15.out.own 1 rfl).at_ 0 rfl).row ((S_15.out.own 0 rfl).at_ 0 rfl).row (by unfold maxLen; omega)).mono ?_
  rintro e w11_ ⟨rfl, hb⟩
  have S_16 := Lib.hid (S_15.out.call hb)
  clear S_15
  clear hb
  go_wp2
  go_ret
  exact ⟨rfl, S_16.out.below⟩

set_option maxRecDepth 100000 in
theorem lifted (os : Os) (started : os.Started) (H : Type) (enc : TypeId × Value → H) :
    ReturnsInHanded {} Tryz.checked os 4 .any (Rows.fnExactIsOrderSpec.pre6 enc Tryz.prog Tryz.f4 Rows.fnExactIsOrderRow.domain false) (Rows.fnExactIsOrderSpec.post enc Tryz.prog Tryz.f4 false true false false) := by
  refine returnsInHanded_of_change (C := Tryz.checked) own started (by kernel_rfl) Tryz.func4
    (ChangeSpec.witness6 (enc := enc) (C := Tryz.checked) false ⟨#[], #[.slice none 0 0, .slice none 0 0], []⟩ 8 (by kernel_rfl) (by kernel_rfl) (by kernel_rfl) (by kernel_rfl)) ?_
  intro W base args ds gs before hval0 hW hcnd _
  have hval : ∀ (j : Nat) t v, Tryz.f4.params[j]? = some t → args[j]? = some v → Value.okWide Tryz.prog W .any base t v := hval0
  have hW' := hW
  obtain ⟨p, q, hA0, hV, rfl, hfz, hnd⟩ := hW
  have hA : DataW.TrodAll enc Tryz.prog W 0 (fun _ => true) true Tryz.f4.params.toList args.toList ds p := hA0
  rw [Tryz.params4] at hA hval
  obtain ⟨v0, vs0, d0, ds0, p0, q0, hargs, rfl, rfl, h0, r0⟩ := trodAll_cons hA
  obtain ⟨v1, vs1, d1, ds1, p1, q1, rfl, rfl, rfl, h1, r1⟩ := trodAll_cons r0
  obtain ⟨rfl, rfl, rfl⟩ := trodAll_nil r1
  obtain rfl : args = #[v0, v1] := by cases args; simp_all
  obtain ⟨rfl, rfl⟩ := trodVars_none hV
  obtain ⟨a0, len0, cap0, rfl⟩ := okWide_slice Tryz.underlying34 (hval 0 34 v0 rfl rfl)
  have k0 := h0
  have lt0 : ∀ x ∈ p0, x.block < W.heap.size := by obtain ⟨m, hm⟩ := k0; exact DataW.trod_lt m _ _ _ hm
  obtain ⟨z0, w0⟩ := isLinks_of linkT Tryz.underlying34 h0
  obtain ⟨a1, len1, cap1, rfl⟩ := okWide_slice Tryz.underlying25 (hval 1 25 v1 rfl rfl)
  have k1 := h1
  have lt1 : ∀ x ∈ p1, x.block < W.heap.size := by obtain ⟨m, hm⟩ := k1; exact DataW.trod_lt m _ _ _ hm
  obtain ⟨z1, w1⟩ := isInts_of Tryz.underlying25 Tryz.underlying3 (by kernel_rfl) h1
  clear hA0 hval0
  refine (walk W a0 len0 cap0 z0 w0 a1 len1 cap1 z1 w1).mono fun e W' ⟨he, bel⟩ => ?_
  subst he
  exact ⟨_, rfl, _, _, _, [], _, [], hW', trodAll_mk1 (shut_bool Tryz.underlying4 _), (trodAll_cons_mk (Below.trod laidOut (by kernel_rfl) (of_decide_eq_true (by kernel_rfl)) k0 bel lt0) (trodAll_cons_mk (Below.trod laidOut (by kernel_rfl) (of_decide_eq_true (by kernel_rfl)) k1 bel lt1) trodAll_mk0)), rfl, bel.frame _, fun h => by cases h⟩

theorem over : Rows.fnExactIsOrderRow.holds Tryz.pinned (OpenSpec.ofChange Rows.fnExactIsOrderSpec) :=
  OpenClaim.holds_of_wide 4 Tryz.f4 rfl rfl rfl rfl rfl rfl rfl ⟨rfl, rfl, rfl, rfl, rfl⟩ rfl rfl rfl rfl rfl (by kernel_rfl) Tryz.func4 (by kernel_rfl)
    (of_decide_eq_true (by kernel_rfl)) (by unfold Func.isWrapper; first | (rw [if_pos (by decide +kernel)]; kernel_rfl) | (rw [if_neg (by decide +kernel)]; exact ⟨rfl, rfl⟩))
    (fun os started H enc _ => lifted os started H enc)

theorem proved : Rows.FnExactIsOrderSaid := over
#print axioms proved
end Go.Proofs.YtgmgdbnfmlmicaaGreat.lawIsOrder
