/- Proved: at every slice of links, impl.IsGrounded answers as its model spec.IsGrounded, writes into no argument, the call returns true and changes no memory that was there. Conditions: none. -/
import Derived.Test.YtgjaennedihckaaGreatRows
import Derived.Test.YtgjaennedihckaaGreatB1
import Derived.Test.YtgjaennedihckaaGreatOpenL
import Derived.Test.YtgjaennedihckaaGreatSetAid
import Derived.Test.YtgjaennedihckaaGreatGraphS
import Derived.Test.YtgjaennedihckaaGreatNbr
import Derived.WalkKit
import Derived.ProofKit
import Derived.OpenShut
import Derived.ShutString
import Derived.ChangeOld
import Derived.Below
namespace Go.Proofs.YtgjaennedihckaaGreat.lawIsGrounded
open Go.ChangeShapes Go.WideShapes Go.ChangeAt Go.RowKit
open Go.ChangeMaps (open_string shut_string)
set_option linter.unusedVariables false

theorem own : ownKnob Tryz.prog.godebug = none := by kernel_rfl
theorem laidOut : laidOutB Tryz.prog = true := by kernel_rfl
open Nt Fr

set_option maxRecDepth 100000 in
set_option maxHeartbeats 4000000 in
theorem walk (W : World) (a0 : Option Addr) (len0 cap0 : Nat) (z0 : List Lr) (w0 : IsLinks W a0 len0 cap0 z0) :
    Calls Tryz.prog 6 #[.slice a0 len0 cap0] W fun e w' => e = .returned (.bool true) ∧ Below W.heap.size W w' := by
  obtain ⟨hA, hcap, hcm⟩ := w0
  have hlm : len0 ≤ 9223372036854775807 := by unfold maxLen at hcm; omega
  have HZ := Lib.hid hA.1
  have HA := Lib.hid hA
  clear hA hcm
  obtain ⟨R, hR⟩ : ∃ q, groundA z0 = q := ⟨_, rfl⟩
  have HDR := Lib.hid hR
  clear hR
  have S_0 := Lib.hid (St.start W)
  go_enter Tryz.func6, Tryz.ntmps6
  go_wp2_with fail
  refine (szLinkS_any a0 len0 cap0 z0 1048576 _ (by omega) (by omega) (HA.out.below S_0.out.below) hlm).mono ?_
  rintro e w1_ ⟨rfl, hb⟩
  have S_1 := Lib.hid (S_0.out.call hb)
  clear S_0
  clear hb
  by_cases hs : (1048576 : Int) < ((len0 + lensL z0 : Nat) : Int)
  · rw [szOf_neg hs]
    go_wp2
    go_ret
    exact ⟨rfl, S_1.out.below⟩
  rw [szOf_pos hs]
  obtain ⟨left0, hq⟩ : ∃ q : Int, 1048576 - ((len0 + lensL z0 : Nat) : Int) = q := ⟨_, rfl⟩
  have hl0 : 0 ≤ left0 := by omega
  have HN := Lib.hid (show len0 + lensL z0 ≤ 1048576 by omega)
  have hl1 : len0 ≤ 1048576 := by omega
  rw [hq]
  clear hq hs
  go_wp2_with fail
  refine (toLinkS_any a0 len0 cap0 z0 _ (HA.out.below S_1.out.below) HN.out).mono ?_
  rintro e w2_ ⟨bt, yt, rfl, hyl, hlk, hst⟩
  rw [HZ.out] at hyl ⊢
  have HYt := Lib.hid hyl
  have HKt := Lib.hid hlk
  have S_2 := Lib.hid (S_1.out.comp hst)
  clear S_1
  clear hyl hlk hst
  go_wp2_with fail
  have HLRt := Lib.hid (show groundA yt = R from (groundA_like HYt.out HZ.out HKt.out).trans HDR.out)
  refine (isGrounded_s (some ⟨bt, 0, none⟩) len0 len0 yt _ (HYt.out ▸ S_2.out.larg 0 0 rfl rfl) hl1).mono ?_
  rintro e w3_ ⟨rfl, hb⟩
  have S_3 := Lib.hid (S_2.out.call hb)
  clear S_2
  clear hb
  rw [HLRt.out]
  go_wp2_with fail
  have S_4 := Lib.hid (S_3.out.dropBox 0)
  clear S_3
  have S_5 := Lib.hid (S_4.out.drop 0)
  clear S_4
  refine (toLinkS_any a0 len0 cap0 z0 _ (HA.out.below S_5.out.below) HN.out).mono ?_
  rintro e w4_ ⟨bx, yx, rfl, hyl, hlk, hst⟩
  rw [HZ.out] at hyl ⊢
  have HYx := Lib.hid hyl
  have HKx := Lib.hid hlk
  have S_6 := Lib.hid (S_5.out.comp hst)
  clear S_5
  clear hyl hlk hst
  go_wp2_with fail
  have HLRx := Lib.hid (show groundA yx = R from (groundA_like HYx.out HZ.out HKx.out).trans HDR.out)
  refine (isGrounded_i (some ⟨bx, 0, none⟩) len0 len0 yx _ (HYx.out ▸ S_6.out.larg 0 0 rfl rfl) hl1).mono ?_
  rintro e w5_ ⟨rfl, hb⟩
  have S_7 := Lib.hid (S_6.out.call hb)
  clear S_6
  clear hb
  rw [HLRx.out]
  go_wp2_with fail
  refine (toLinkS_any a0 len0 cap0 z0 _ (HA.out.below S_7.out.below) HN.out).mono ?_
  rintro e w6_ ⟨bu, yu, rfl, hyl, hlk, hst⟩
  rw [HZ.out] at hyl ⊢
  have HYu := Lib.hid hyl
  have HKu := Lib.hid hlk
  have S_8 := Lib.hid (S_7.out.comp hst)
  clear S_7
  clear hyl hlk hst
  go_wp2_with fail
  refine (eqLinkS_same (some ⟨bx, 0, none⟩) (some ⟨bu, 0, none⟩) len0 len0 len0 yx yu _ (HYx.out ▸ S_8.out.lrow 1 1 rfl rfl) (HYu.out ▸ S_8.out.lrow 0 0 rfl rfl) (like_both HYx.out HYu.out HZ.out HKx.out HKu.out) hl1).mono ?_
  rintro e w7_ ⟨rfl, hb⟩
  have S_9 := Lib.hid (S_8.out.call hb)
  clear S_8
  clear hb
  go_wp2
  go_ret
  exact ⟨rfl, S_9.out.below⟩

set_option maxRecDepth 100000 in
theorem lifted (os : Os) (started : os.Started) (H : Type) (enc : TypeId × Value → H) :
    ReturnsInHanded {} Tryz.checked os 6 .any (Rows.fnExactIsGroundedSpec.pre6 enc Tryz.prog Tryz.f6 Rows.fnExactIsGroundedRow.domain false) (Rows.fnExactIsGroundedSpec.post enc Tryz.prog Tryz.f6 false true false false) := by
  refine returnsInHanded_of_change (C := Tryz.checked) own started (by kernel_rfl) Tryz.func6
    (ChangeSpec.witness6 (enc := enc) (C := Tryz.checked) false ⟨#[], #[.slice none 0 0], []⟩ 8 (by kernel_rfl) (by kernel_rfl) (by kernel_rfl) (by kernel_rfl)) ?_
  intro W base args ds gs before hval0 hW hcnd _
  have hval : ∀ (j : Nat) t v, Tryz.f6.params[j]? = some t → args[j]? = some v → Value.okWide Tryz.prog W .any base t v := hval0
  have hW' := hW
  obtain ⟨p, q, hA0, hV, rfl, hfz, hnd⟩ := hW
  have hA : DataW.TrodAll enc Tryz.prog W 0 (fun _ => true) true Tryz.f6.params.toList args.toList ds p := hA0
  rw [Tryz.params6] at hA hval
  obtain ⟨v0, vs0, d0, ds0, p0, q0, hargs, rfl, rfl, h0, r0⟩ := trodAll_cons hA
  obtain ⟨rfl, rfl, rfl⟩ := trodAll_nil r0
  obtain rfl : args = #[v0] := by cases args; simp_all
  obtain ⟨rfl, rfl⟩ := trodVars_none hV
  obtain ⟨a0, len0, cap0, rfl⟩ := okWide_slice Tryz.underlying50 (hval 0 50 v0 rfl rfl)
  have k0 := h0
  have lt0 : ∀ x ∈ p0, x.block < W.heap.size := by obtain ⟨m, hm⟩ := k0; exact DataW.trod_lt m _ _ _ hm
  obtain ⟨z0, w0⟩ := isLinks_of linkT Tryz.underlying50 h0
  clear hA0 hval0
  refine (walk W a0 len0 cap0 z0 w0).mono fun e W' ⟨he, bel⟩ => ?_
  subst he
  exact ⟨_, rfl, _, _, _, [], _, [], hW', trodAll_mk1 (shut_bool Tryz.underlying4 _), (trodAll_cons_mk (Below.trod laidOut (by kernel_rfl) (of_decide_eq_true (by kernel_rfl)) k0 bel lt0) trodAll_mk0), rfl, bel.frame _, fun h => by cases h⟩

theorem over : Rows.fnExactIsGroundedRow.holds Tryz.pinned (OpenSpec.ofChange Rows.fnExactIsGroundedSpec) :=
  OpenClaim.holds_of_wide 6 Tryz.f6 rfl rfl rfl rfl rfl rfl rfl ⟨rfl, rfl, rfl, rfl, rfl⟩ rfl rfl rfl rfl rfl (by kernel_rfl) Tryz.func6 (by kernel_rfl)
    (of_decide_eq_true (by kernel_rfl)) (by unfold Func.isWrapper; first | (rw [if_pos (by decide +kernel)]; kernel_rfl) | (rw [if_neg (by decide +kernel)]; exact ⟨rfl, rfl⟩))
    (fun os started H enc _ => lifted os started H enc)

theorem proved : Rows.FnExactIsGroundedSaid := over
#print axioms proved
end Go.Proofs.YtgjaennedihckaaGreat.lawIsGrounded
