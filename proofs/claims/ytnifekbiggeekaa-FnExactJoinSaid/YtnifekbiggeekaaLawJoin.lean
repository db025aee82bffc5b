/- Proved: at every slice of strings and every separator, impl.Join answers as its model spec.Join, it leaves its argument as it was, the call returns true and changes no memory that was there. Conditions: none. -/
import Derived.Test.YtnifekbiggeekaaRows
import Derived.Test.YtnifekbiggeekaaJoinImpl
import Derived.Test.YtnifekbiggeekaaHelpS2
import Derived.Test.YtnifekbiggeekaaOpen
import Derived.WalkKit
import Derived.ProofKit
import Derived.OpenShut
import Derived.ShutString
import Derived.ChangeOld
import Derived.Below
namespace Go.Proofs.Ytnifekbiggeekaa.lawJoin
open Go.ChangeShapes Go.WideShapes Go.ChangeAt Go.RowKit
open Go.ChangeMaps (open_string shut_string)
set_option linter.unusedVariables false

theorem own : ownKnob Try.prog.godebug = none := by kernel_rfl
theorem laidOut : laidOutB Try.prog = true := by kernel_rfl
open Jn

set_option maxHeartbeats 1000000 in
theorem walk (W : World) (a0 : Option Addr) (len0 cap0 : Nat) (z0 : List ByteArray) (w0 : IsStrs W a0 len0 cap0 z0) (a1 : ByteArray) (w1 : a1.size ≤ maxLen) :
    Calls Try.prog 7 #[.slice a0 len0 cap0, .string a1] W fun e w' => e = .returned (.bool true) ∧ Below W.heap.size W w' := by
  obtain ⟨hA, hcap, hcm, hzs⟩ := w0
  have HA := Lib.hid hA
  have HZ := Lib.hid hzs
  have HCM := Lib.hid hcm
  have hlm : len0 ≤ maxLen := Nat.le_trans hcap hcm
  have HLM := Lib.hid hlm
  have HL := Lib.hid (show z0.length = len0 by simpa using hA.1)
  unfold maxLen at w1 hlm
  clear hA hzs hcm
  by_cases hb : 1048576 < a1.size
  · go_enter Try.func7, Try.ntmps7
    go_wp2
    go_ret
    exact ⟨rfl, Below.refl _ _⟩
  · go_enter Try.func7, Try.ntmps7
    go_wp2_with fail
    refine (szStringS_any a0 len0 cap0 1048576 _ (by first | rfl | omega) z0 _ HA.out HLM.out HZ.out (Nat.le_refl _)).mono ?_
    rintro e w' ⟨z, rfl, rfl, hz1, hz2, hz3⟩
    by_cases hneg : z < 0
    · clear hz1
      go_wp2
      go_ret
      exact ⟨rfl, Below.refl _ _⟩
    · have ht := hz1 (by omega)
      rw [HL.out] at ht
      clear hz1
      have hl20 : len0 ≤ 1048576 := by omega
      go_wp2_with fail
      refine (toStringS_any a0 len0 cap0 z0 _ HA.out hl20).mono ?_
      rintro e w1 ⟨v1, rfl, ho1, hb1⟩
      rw [HL.out] at ho1
      obtain ⟨A1, c1, rfl⟩ := own_shape ho1
      have HO1 := Lib.hid ho1
      have HB1 := Lib.hid hb1
      clear ho1 hb1
      go_wp2_with fail
      refine (join_spec A1 len0 c1 a1 z0 _ (VRow.of_own HO1.out) (by omega) ht).mono ?_
      rintro e w' ⟨rfl, rfl⟩
      go_wp2_with fail
      have HA1 := Lib.hid (HA.out.below HB1.out (Nat.le_refl _))
      refine (toStringS_any a0 len0 cap0 z0 _ HA1.out hl20).mono ?_
      rintro e w2 ⟨v2, rfl, ho2, hb2⟩
      rw [HL.out] at ho2
      obtain ⟨A2, c2, rfl⟩ := own_shape ho2
      have HO2 := Lib.hid ho2
      have HB2 := Lib.hid hb2
      have HC2 := Lib.hid (own_cap ho2).1
      clear ho2 hb2
      go_wp2_with fail
      refine (join_impl A2 len0 c2 a1 z0 _ (VRow.of_own HO2.out) HC2.out (by omega) (by omega) hl20).mono ?_
      rintro e w3 ⟨rfl, hb3⟩
      have HB3 := Lib.hid hb3
      clear hb3
      go_wp2_with fail
      have HA3 := Lib.hid ((HA1.out.below HB2.out (Nat.le_refl _)).below HB3.out (Nat.le_refl _))
      refine (toStringS_any a0 len0 cap0 z0 _ HA3.out hl20).mono ?_
      rintro e w4 ⟨v4, rfl, ho4, hb4⟩
      rw [HL.out] at ho4
      obtain ⟨A4, c4, rfl⟩ := own_shape ho4
      have HO4 := Lib.hid ho4
      have HB4 := Lib.hid hb4
      clear ho4 hb4
      go_wp2_with fail
      refine (eqStringS_same A2 A4 len0 c2 c4 z0 _ (VRow.of_own (own_below (own_below HO2.out HB3.out) HB4.out)) (VRow.of_own HO4.out) HLM.out).mono ?_
      rintro e w5 ⟨rfl, q5, rfl⟩
      go_wp2
      go_ret
      have h2 := HB1.out.trans (HB2.out.mono HB1.out.size)
      have h3 := h2.trans (HB3.out.mono h2.size)
      exact ⟨rfl, below_drewN (h3.trans (HB4.out.mono h3.size)) q5⟩

set_option maxRecDepth 100000 in
theorem lifted (os : Os) (started : os.Started) (H : Type) (enc : TypeId × Value → H) :
    ReturnsInHanded {} Try.checked os 7 .any (Rows.fnExactJoinSpec.pre6 enc Try.prog Try.f7 Rows.fnExactJoinRow.domain false) (Rows.fnExactJoinSpec.post enc Try.prog Try.f7 false true false false) := by
  refine returnsInHanded_of_change (C := Try.checked) own started (by kernel_rfl) Try.func7
    (ChangeSpec.witness6 (enc := enc) (C := Try.checked) false ⟨#[], #[.slice none 0 0, .string ByteArray.empty], []⟩ 8 (by kernel_rfl) (by kernel_rfl) (by kernel_rfl) (by kernel_rfl)) ?_
  intro W base args ds gs before hval0 hW hcnd _
  have hval : ∀ (j : Nat) t v, Try.f7.params[j]? = some t → args[j]? = some v → Value.okWide Try.prog W .any base t v := hval0
  have hW' := hW
  obtain ⟨p, q, hA0, hV, rfl, hfz, hnd⟩ := hW
  have hA : DataW.TrodAll enc Try.prog W 0 (fun _ => true) true Try.f7.params.toList args.toList ds p := hA0
  rw [Try.params7] at hA hval
  obtain ⟨v0, vs0, d0, ds0, p0, q0, hargs, rfl, rfl, h0, r0⟩ := trodAll_cons hA
  obtain ⟨v1, vs1, d1, ds1, p1, q1, rfl, rfl, rfl, h1, r1⟩ := trodAll_cons r0
  obtain ⟨rfl, rfl, rfl⟩ := trodAll_nil r1
  obtain rfl : args = #[v0, v1] := by cases args; simp_all
  obtain ⟨rfl, rfl⟩ := trodVars_none hV
  obtain ⟨a0, len0, cap0, rfl⟩ := okWide_slice Try.underlying23 (hval 0 23 v0 rfl rfl)
  have k0 := h0
  have lt0 : ∀ x ∈ p0, x.block < W.heap.size := by obtain ⟨m, hm⟩ := k0; exact DataW.trod_lt m _ _ _ hm
  obtain ⟨z0, w0⟩ := isStrs_of Try.underlying23 Try.underlying9 (by kernel_rfl) h0
  obtain ⟨a1, rfl, rfl, rfl, w1⟩ := open_string Try.underlying9 (hval 1 9 v1 rfl rfl) h1
  clear hA0 hval0
  refine (walk W a0 len0 cap0 z0 w0 a1 w1).mono fun e W' ⟨he, bel⟩ => ?_
  subst he
  exact ⟨_, rfl, _, _, _, [], _, [], hW', trodAll_mk1 (shut_bool Try.underlying4 _), (trodAll_cons_mk (Below.trod laidOut (by kernel_rfl) (of_decide_eq_true (by kernel_rfl)) k0 bel lt0) (trodAll_cons_mk (shut_string Try.underlying9 w1) trodAll_mk0)), rfl, bel.frame _, fun h => by cases h⟩

theorem over : Rows.fnExactJoinRow.holds Try.pinned (OpenSpec.ofChange Rows.fnExactJoinSpec) :=
  OpenClaim.holds_of_wide 7 Try.f7 rfl rfl rfl rfl rfl rfl rfl ⟨rfl, rfl, rfl, rfl, rfl⟩ rfl rfl rfl rfl rfl (by kernel_rfl) Try.func7 (by kernel_rfl)
    (of_decide_eq_true (by kernel_rfl)) (by unfold Func.isWrapper; first | (rw [if_pos (by decide +kernel)]; kernel_rfl) | (rw [if_neg (by decide +kernel)]; exact ⟨rfl, rfl⟩))
    (fun os started H enc _ => lifted os started H enc)

theorem proved : Rows.FnExactJoinSaid := over
#print axioms proved
end Go.Proofs.Ytnifekbiggeekaa.lawJoin
