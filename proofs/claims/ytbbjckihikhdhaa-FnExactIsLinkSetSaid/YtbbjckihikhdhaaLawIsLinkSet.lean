/- Proved: at every slice of links, impl.IsLinkSet answers as its model spec.IsLinkSet, writes into no argument, the call returns true and changes no memory that was there. Conditions: none. -/
import Derived.Test.YtbbjckihikhdhaaRows
import Derived.Test.YtbbjckihikhdhaaB1
import Derived.Test.YtbbjckihikhdhaaOpenL
import Derived.Test.YtbbjckihikhdhaaIsSetS
import Derived.Test.YtbbjckihikhdhaaSetAid
import Derived.WalkKit
import Derived.ProofKit
import Derived.OpenShut
import Derived.ShutString
import Derived.ChangeOld
import Derived.Below
namespace Go.Proofs.Ytbbjckihikhdhaa.lawIsLinkSet
open Go.ChangeShapes Go.WideShapes Go.ChangeAt Go.RowKit
open Go.ChangeMaps (open_string shut_string)
set_option linter.unusedVariables false

theorem own : ownKnob Try.prog.godebug = none := by kernel_rfl
theorem laidOut : laidOutB Try.prog = true := by kernel_rfl
open Nt Fr

set_option maxRecDepth 100000 in
set_option maxHeartbeats 4000000 in
theorem walk (W : World) (a0 : Option Addr) (len0 cap0 : Nat) (z0 : List Lr) (w0 : IsLinks W a0 len0 cap0 z0) :
    Calls Try.prog 11 #[.slice a0 len0 cap0] W fun e w' => e = .returned (.bool true) ∧ Below W.heap.size W w' := by
  obtain ⟨hA, hcap, hcm⟩ := w0
  have hlm : len0 ≤ 9223372036854775807 := by unfold maxLen at hcm; omega
  have HZ := Lib.hid hA.1
  have HA := Lib.hid hA
  clear hA hcm
  obtain ⟨ok, hok⟩ : ∃ q, okSet z0 = q := ⟨_, rfl⟩
  have HOK := Lib.hid hok
  have S_0 := Lib.hid (St.start W)
  clear hok
  go_enter Try.func11, Try.ntmps11
  go_wp2_with fail
  refine (szLinkS_any a0 len0 cap0 z0 1048576 _ (by omega) (by omega) (HA.out.below S_0.out.below) hlm).mono ?_
  rintro e w1 ⟨rfl, hb⟩
  have S_1 := Lib.hid (S_0.out.call hb)
  clear hb S_0
  by_cases hs : (1048576 : Int) < ((len0 + lensL z0 : Nat) : Int)
  · rw [szOf_neg hs]
    go_wp2
    go_ret
    exact ⟨rfl, S_1.out.below⟩
  rw [szOf_pos hs]
  obtain ⟨left0, hq⟩ : ∃ q : Int, 1048576 - ((len0 + lensL z0 : Nat) : Int) = q := ⟨_, rfl⟩
  have hl0 : 0 ≤ left0 := by omega
  have HN := Lib.hid (show len0 + lensL z0 ≤ 1048576 by omega)
  have hl1 : len0 ≤ 1048576 := by omega
  rw [hq]
  clear hq hs
  go_wp2_with fail
  refine (toLinkS_any a0 len0 cap0 z0 _ (HA.out.below S_1.out.below) HN.out).mono ?_
  rintro e w2 ⟨bt, yt, rfl, hyl, hlk, hst⟩
  rw [HZ.out] at hyl ⊢
  have HYt := Lib.hid hyl
  have HKt := Lib.hid hlk
  have S_2 := Lib.hid (S_1.out.comp hst)
  clear hyl hlk hst S_1
  have HOt := Lib.hid ((okSet_like HYt.out HZ.out HKt.out).trans HOK.out)
  go_wp2_with fail
  refine (isLinkSet_s (some ⟨bt, 0, none⟩) len0 len0 yt _ (HYt.out ▸ S_2.out.larg 0 0 rfl rfl) hl1).mono ?_
  rintro e w3 ⟨rfl, hb⟩
  rw [HOt.out]
  have S_3 := Lib.hid (S_2.out.call hb)
  clear hb S_2
  go_wp2_with fail
  refine (toLinkS_any a0 len0 cap0 z0 _ (HA.out.below S_3.out.below) HN.out).mono ?_
  rintro e w4 ⟨bx, yx, rfl, hyl, hlk, hst⟩
  rw [HZ.out] at hyl ⊢
  have HYx := Lib.hid hyl
  have HKx := Lib.hid hlk
  have S_4 := Lib.hid (S_3.out.comp hst)
  clear hyl hlk hst S_3
  have HOx := Lib.hid ((okSet_like HYx.out HZ.out HKx.out).trans HOK.out)
  go_wp2_with fail
  refine (isLinkSet_i (some ⟨bx, 0, none⟩) len0 len0 yx _ (HYx.out ▸ S_4.out.larg 0 0 rfl rfl) hl1 (fun u h => isAscending_f _ len0 len0 yx u h hl1)).mono ?_
  rintro e w5 ⟨rfl, hb⟩
  rw [HOx.out]
  have S_5 := Lib.hid (S_4.out.call hb)
  clear hb S_4
  go_wp2_with fail
  refine (toLinkS_any a0 len0 cap0 z0 _ (HA.out.below S_5.out.below) HN.out).mono ?_
  rintro e w6 ⟨by0, yy, rfl, hyl, hlk, hst⟩
  rw [HZ.out] at hyl ⊢
  have HYy := Lib.hid hyl
  have HKy := Lib.hid hlk
  have S_6 := Lib.hid (S_5.out.comp hst)
  clear hyl hlk hst S_5
  go_wp2_with fail
  refine (eqLinkS_same (some ⟨bx, 0, none⟩) (some ⟨by0, 0, none⟩) len0 len0 len0 yx yy _ (HYx.out ▸ S_6.out.lrow 1 1 rfl rfl) (HYy.out ▸ S_6.out.lrow 0 0 rfl rfl) (like_both HYx.out HYy.out HZ.out HKx.out HKy.out) hl1).mono ?_
  rintro e w7 ⟨rfl, hb⟩
  have S_7 := Lib.hid (S_6.out.call hb)
  clear hb S_6
  go_wp2
  go_ret
  exact ⟨rfl, S_7.out.below⟩

set_option maxRecDepth 100000 in
theorem lifted (os : Os) (started : os.Started) (H : Type) (enc : TypeId × Value → H) :
    ReturnsInHanded {} Try.checked os 11 .any (Rows.fnExactIsLinkSetSpec.pre6 enc Try.prog Try.f11 Rows.fnExactIsLinkSetRow.domain false) (Rows.fnExactIsLinkSetSpec.post enc Try.prog Try.f11 false true false false) := by
  refine returnsInHanded_of_change (C := Try.checked) own started (by kernel_rfl) Try.func11
    (ChangeSpec.witness6 (enc := enc) (C := Try.checked) false ⟨#[], #[.slice none 0 0], []⟩ 8 (by kernel_rfl) (by kernel_rfl) (by kernel_rfl) (by kernel_rfl)) ?_
  intro W base args ds gs before hval0 hW hcnd _
  have hval : ∀ (j : Nat) t v, Try.f11.params[j]? = some t → args[j]? = some v → Value.okWide Try.prog W .any base t v := hval0
  have hW' := hW
  obtain ⟨p, q, hA0, hV, rfl, hfz, hnd⟩ := hW
  have hA : DataW.TrodAll enc Try.prog W 0 (fun _ => true) true Try.f11.params.toList args.toList ds p := hA0
  rw [Try.params11] at hA hval
  obtain ⟨v0, vs0, d0, ds0, p0, q0, hargs, rfl, rfl, h0, r0⟩ := trodAll_cons hA
  obtain ⟨rfl, rfl, rfl⟩ := trodAll_nil r0
  obtain rfl : args = #[v0] := by cases args; simp_all
  obtain ⟨rfl, rfl⟩ := trodVars_none hV
  obtain ⟨a0, len0, cap0, rfl⟩ := okWide_slice Try.underlying46 (hval 0 46 v0 rfl rfl)
  have k0 := h0
  have lt0 : ∀ x ∈ p0, x.block < W.heap.size := by obtain ⟨m, hm⟩ := k0; exact DataW.trod_lt m _ _ _ hm
  obtain ⟨z0, w0⟩ := isLinks_of linkT Try.underlying46 h0
  clear hA0 hval0
  refine (walk W a0 len0 cap0 z0 w0).mono fun e W' ⟨he, bel⟩ => ?_
  subst he
  exact ⟨_, rfl, _, _, _, [], _, [], hW', trodAll_mk1 (shut_bool Try.underlying4 _), (trodAll_cons_mk (Below.trod laidOut (by kernel_rfl) (of_decide_eq_true (by kernel_rfl)) k0 bel lt0) trodAll_mk0), rfl, bel.frame _, fun h => by cases h⟩

theorem over : Rows.fnExactIsLinkSetRow.holds Try.pinned (OpenSpec.ofChange Rows.fnExactIsLinkSetSpec) :=
  OpenClaim.holds_of_wide 11 Try.f11 rfl rfl rfl rfl rfl rfl rfl ⟨rfl, rfl, rfl, rfl, rfl⟩ rfl rfl rfl rfl rfl (by kernel_rfl) Try.func11 (by kernel_rfl)
    (of_decide_eq_true (by kernel_rfl)) (by unfold Func.isWrapper; first | (rw [if_pos (by decide +kernel)]; kernel_rfl) | (rw [if_neg (by decide +kernel)]; exact ⟨rfl, rfl⟩))
    (fun os started H enc _ => lifted os started H enc)

theorem proved : Rows.FnExactIsLinkSetSaid := over
#print axioms proved
end Go.Proofs.Ytbbjckihikhdhaa.lawIsLinkSet
