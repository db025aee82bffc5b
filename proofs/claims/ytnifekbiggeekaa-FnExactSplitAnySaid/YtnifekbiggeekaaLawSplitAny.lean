/- Proved: at all strings, impl.SplitAny answers as its model spec.SplitAny, its answer owns its memory, the call returns true and changes no memory that was there. Conditions: none. -/
import Derived.Test.YtnifekbiggeekaaRows
import Derived.Test.YtnifekbiggeekaaHelpS
import Derived.Test.YtnifekbiggeekaaSplit
import Derived.Test.YtnifekbiggeekaaOpen
import Derived.WalkKit
import Derived.ProofKit
import Derived.OpenShut
import Derived.ShutString
import Derived.ChangeOld
import Derived.Below
namespace Go.Proofs.Ytnifekbiggeekaa.lawSplitAny
open Go.ChangeShapes Go.WideShapes Go.ChangeAt Go.RowKit
open Go.ChangeMaps (open_string shut_string)
set_option linter.unusedVariables false

theorem own : ownKnob Try.prog.godebug = none := by kernel_rfl
theorem laidOut : laidOutB Try.prog = true := by kernel_rfl
open Sp

set_option maxHeartbeats 1000000 in
theorem walk (W : World) (a0 : ByteArray) (w0 : a0.size ≤ maxLen) (a1 : ByteArray) (w1 : a1.size ≤ maxLen) :
    Calls Try.prog 5 #[.string a0, .string a1] W fun e w' => e = .returned (.bool true) ∧ Below W.heap.size W w' := by
  unfold maxLen at w0 w1
  by_cases hs : 1048576 < a0.size
  · go_enter Try.func5, Try.ntmps5
    go_wp2
    go_ret
    exact ⟨rfl, Below.refl _ _⟩
  · by_cases hb : 1048576 < a1.size
    · go_enter Try.func5, Try.ntmps5
      go_wp2
      go_ret
      exact ⟨rfl, Below.refl _ _⟩
    · have hpl := parts_len a0 a1
      obtain ⟨n, hn⟩ : ∃ n, n = (parts a0 a1).length := ⟨_, rfl⟩
      rw [← hn] at hpl
      have HN := Lib.hid hn
      clear hn
      go_enter Try.func5, Try.ntmps5
      go_wp2_with fail
      refine (splitAny_spec _ _ _ (by omega) (by omega)).mono ?_
      rintro e w1 ⟨v0, rfl, ho0, hb1⟩
      rw [← HN.out] at ho0
      obtain ⟨A0, c0, rfl⟩ := own_shape ho0
      have HO0 := Lib.hid ho0
      have HB1 := Lib.hid hb1
      clear ho0 hb1
      go_wp2_with fail
      refine (splitAny_impl _ _ _ (by omega) (by omega)).mono ?_
      rintro e w2 ⟨v1, rfl, ho1, hb2⟩
      rw [← HN.out] at ho1
      obtain ⟨A1, c1, rfl⟩ := own_shape ho1
      have HO0' := Lib.hid (own_below HO0.out hb2)
      have HO1 := Lib.hid ho1
      have HB2 := Lib.hid (HB1.out.trans (hb2.mono HB1.out.size))
      have HBB := Lib.hid hb2
      clear ho1 hb2
      go_wp2_with fail
      refine (eqStringS_same A1 A0 n c1 c0 (parts a0 a1) _ (VRow.of_own HO1.out) (VRow.of_own HO0'.out) (by unfold maxLen; omega)).mono ?_
      rintro e w3 ⟨rfl, q3, rfl⟩
      go_wp2_with fail
      refine (markStringS_at A1 n c1 1 w1.heap.size _ (by first | rfl | omega) _ _ (own_drewN HO1.out q3) (by omega) (by omega)).mono ?_
      rintro e w4 ⟨rfl, ho4, hg4⟩
      have HO4 := Lib.hid ho4
      have HG4 := Lib.hid hg4
      clear ho4 hg4
      go_wp2_with fail
      refine (heldStringS_at A1 n c1 1 _ (by first | rfl | omega) _ (VRow.of_own HO4.out) (by omega) (by omega)).mono ?_
      rintro e w5 ⟨rfl, hb5⟩
      have HB5 := Lib.hid hb5
      clear hb5
      go_wp2_with fail
      have HO0a := Lib.hid (own_below ((own_drewN HO0'.out q3).kept HG4.out (own_apart HO0.out HO1.out (Nat.le_refl _))) HB5.out)
      have HB4 := Lib.hid ((below_drewN HB2.out q3).grown HG4.out HB2.out.size (fun k hk => Nat.le_trans HB1.out.size (HO1.out.lt k hk).1))
      have HB5' := Lib.hid (HB4.out.trans (HB5.out.mono HB4.out.size))
      refine (splitAny_impl _ _ _ (by omega) (by omega)).mono ?_
      rintro e w6 ⟨v2, rfl, ho6, hb6⟩
      rw [← HN.out] at ho6
      obtain ⟨A2, c2, rfl⟩ := own_shape ho6
      have HO6 := Lib.hid ho6
      have HB6 := Lib.hid hb6
      clear ho6 hb6
      go_wp2_with fail
      refine (eqStringS_same A2 A0 n c2 c0 (parts a0 a1) _ (VRow.of_own HO6.out) (VRow.of_own (own_below HO0a.out HB6.out)) (by unfold maxLen; omega)).mono ?_
      rintro e w7 ⟨rfl, q7, rfl⟩
      go_wp2_with fail
      refine (heldStringS_at A1 n c1 1 _ (by first | rfl | omega) _ (VRow.of_own (own_drewN (own_below (own_below HO4.out HB5.out) HB6.out) q7)) (by omega) (by omega)).mono ?_
      rintro e w8 ⟨rfl, hb8⟩
      have HB8 := Lib.hid hb8
      clear hb8
      go_wp2
      go_ret
      have h6 := below_drewN (HB5'.out.trans (HB6.out.mono HB5'.out.size)) q7
      exact ⟨rfl, h6.trans (HB8.out.mono h6.size)⟩

set_option maxRecDepth 100000 in
theorem lifted (os : Os) (started : os.Started) (H : Type) (enc : TypeId × Value → H) :
    ReturnsInHanded {} Try.checked os 5 .any (Rows.fnExactSplitAnySpec.pre6 enc Try.prog Try.f5 Rows.fnExactSplitAnyRow.domain false) (Rows.fnExactSplitAnySpec.post enc Try.prog Try.f5 false true false false) := by
  refine returnsInHanded_of_change (C := Try.checked) own started (by kernel_rfl) Try.func5
    (ChangeSpec.witness6 (enc := enc) (C := Try.checked) false ⟨#[], #[.string ByteArray.empty, .string ByteArray.empty], []⟩ 8 (by kernel_rfl) (by kernel_rfl) (by kernel_rfl) (by kernel_rfl)) ?_
  intro W base args ds gs before hval0 hW hcnd _
  have hval : ∀ (j : Nat) t v, Try.f5.params[j]? = some t → args[j]? = some v → Value.okWide Try.prog W .any base t v := hval0
  have hW' := hW
  obtain ⟨p, q, hA0, hV, rfl, hfz, hnd⟩ := hW
  have hA : DataW.TrodAll enc Try.prog W 0 (fun _ => true) true Try.f5.params.toList args.toList ds p := hA0
  rw [Try.params5] at hA hval
  obtain ⟨v0, vs0, d0, ds0, p0, q0, hargs, rfl, rfl, h0, r0⟩ := trodAll_cons hA
  obtain ⟨v1, vs1, d1, ds1, p1, q1, rfl, rfl, rfl, h1, r1⟩ := trodAll_cons r0
  obtain ⟨rfl, rfl, rfl⟩ := trodAll_nil r1
  obtain rfl : args = #[v0, v1] := by cases args; simp_all
  obtain ⟨rfl, rfl⟩ := trodVars_none hV
  obtain ⟨a0, rfl, rfl, rfl, w0⟩ := open_string Try.underlying9 (hval 0 9 v0 rfl rfl) h0
  obtain ⟨a1, rfl, rfl, rfl, w1⟩ := open_string Try.underlying9 (hval 1 9 v1 rfl rfl) h1
  clear hA0 hval0
  refine (walk W a0 w0 a1 w1).mono fun e W' ⟨he, bel⟩ => ?_
  subst he
  exact ⟨_, rfl, _, _, _, [], _, [], hW', trodAll_mk1 (shut_bool Try.underlying4 _), (trodAll_cons_mk (shut_string Try.underlying9 w0) (trodAll_cons_mk (shut_string Try.underlying9 w1) trodAll_mk0)), rfl, bel.frame _, fun h => by cases h⟩

theorem over : Rows.fnExactSplitAnyRow.holds Try.pinned (OpenSpec.ofChange Rows.fnExactSplitAnySpec) :=
  OpenClaim.holds_of_wide 5 Try.f5 rfl rfl rfl rfl rfl rfl rfl ⟨rfl, rfl, rfl, rfl, rfl⟩ rfl rfl rfl rfl rfl (by kernel_rfl) Try.func5 (by kernel_rfl)
    (of_decide_eq_true (by kernel_rfl)) (by unfold Func.isWrapper; first | (rw [if_pos (by decide +kernel)]; kernel_rfl) | (rw [if_neg (by decide +kernel)]; exact ⟨rfl, rfl⟩))
    (fun os started H enc _ => lifted os started H enc)

theorem proved : Rows.FnExactSplitAnySaid := over
#print axioms proved
end Go.Proofs.Ytnifekbiggeekaa.lawSplitAny
