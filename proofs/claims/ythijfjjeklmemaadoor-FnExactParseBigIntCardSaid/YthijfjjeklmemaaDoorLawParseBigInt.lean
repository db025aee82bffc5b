/- Proved: at every string, impl.ParseBigInt answers as its model spec.ParseBigInt in every result, writes into no argument, its answer owns its memory, the call returns true and changes no memory that was there; the listed variables of the library are tied to the text that lays them. Conditions: none. -/
import Derived.Test.YthijfjjeklmemaaDoorRows
import Derived.Test.YthijfjjeklmemaaDoorHelpI
import Derived.Test.YthijfjjeklmemaaDoorOpen
import Derived.Test.YthijfjjeklmemaaDoorOpenB
import Derived.Test.YthijfjjeklmemaaDoorBigText
import Derived.Test.YthijfjjeklmemaaDoorLaidBig
import Derived.Test.YthijfjjeklmemaaDoorCards
import Derived.Test.YthijfjjeklmemaaDoorTie
import Derived.WalkKit
import Derived.ProofKit
import Derived.OpenShut
import Derived.ShutString
import Derived.ChangeOld
import Derived.Below
import Derived.LaidMore
import Derived.Stop.Joined
import Derived.SevenTiedAt
namespace Go.Proofs.YthijfjjeklmemaaDoor.lawParseBigInt
open Go.ChangeShapes Go.WideShapes Go.ChangeAt Go.RowKit
open Go.ChangeMaps (open_string shut_string)
set_option linter.unusedVariables false

theorem own : ownKnob Tryd.prog.godebug = none := by kernel_rfl
theorem laidOut : laidOutB Tryd.prog = true := by kernel_rfl
open Nt

set_option maxRecDepth 100000 in
set_option maxHeartbeats 4000000 in
theorem walk (W : World) (hlaid : Laid3 W) (a0 : ByteArray) (w0 : a0.size ≤ maxLen) :
    Calls Tryd.prog 4 #[.string a0] W fun e w' => e = .returned (.bool true) ∧ Below W.heap.size W w' := by
  have HLD := Lib.hid hlaid
  clear hlaid
  unfold maxLen at w0
  by_cases hs0 : 1048576 < a0.size
  · go_enter Tryd.func4, Tryd.ntmps4
    go_wp2
    go_ret
    exact ⟨rfl, Below.refl _ _⟩
  obtain ⟨R0, hR0⟩ : ∃ R : List Int, nats (bpM a0) = ints R := ⟨_, rfl⟩
  have hN0 : R0.length ≤ 1048576 := by have h : (nats (bpM a0)).length ≤ 1048576 := (by rw [nats_len]; exact Nat.le_trans (bpM_len a0) (by omega)); rw [hR0, ints_len] at h; exact h
  obtain ⟨n0, hn0⟩ : ∃ n, R0.length = n := ⟨_, rfl⟩
  rw [hn0] at hN0
  have HN0 := Lib.hid (show (ints R0).length = n0 by rw [ints_len]; exact hn0)
  have HR0 := Lib.hid hR0
  clear hR0 hn0
  obtain ⟨RS0, hRS0⟩ : ∃ b : Bool, bpS a0 = b := ⟨_, rfl⟩
  have HS0 := Lib.hid hRS0
  clear hRS0
  have HB_0 := Lib.hid (Below.refl W.heap.size W)
  go_enter Tryd.func4, Tryd.ntmps4
  go_wp2_with fail
  refine (parseBigInt_spec a0 _ (by unfold maxLen; omega)).mono ?_
  rintro e w1 ⟨v_w0, rfl, ho_w0, hb⟩
  rw [HS0.out]
  rw [HR0.out] at ho_w0
  obtain ⟨A_w0, c_w0, hv⟩ := ho_w0.shape
  rw [HN0.out] at hv
  subst hv
  have H_w0_0 := Lib.hid (ho_w0.based HB_0.out.size)
  clear ho_w0
  have HB_1 := Lib.hid (HB_0.out.trans (hb.mono HB_0.out.size))
  clear hb HB_0
  have K_w0_2 := Lib.hid (Held.new w1 (.bool RS0) (.slice A_w0 n0 c_w0) 27)
  have H_w0_2 := Lib.hid (OwnV.below H_w0_0.out ((Below.refl _ w1).alloc (Nat.le_refl _) (.cells #[.bool RS0, .slice A_w0 n0 c_w0] 27)))
  clear H_w0_0
  have HB_2 := Lib.hid (HB_1.out.alloc HB_1.out.size (.cells #[.bool RS0, .slice A_w0 n0 c_w0] 27))
  clear HB_1
  go_wp2_with fail
  refine (parseBigInt_impl a0 _ (by unfold maxLen; omega)).mono ?_
  rintro e w2 ⟨v_g0, rfl, ho_g0, hb⟩
  rw [HS0.out]
  rw [HR0.out] at ho_g0
  obtain ⟨A_g0, c_g0, hv⟩ := ho_g0.shape
  rw [HN0.out] at hv
  subst hv
  have AP_w0_g0 := Lib.hid (OwnV.apart H_w0_2.out ho_g0 (Nat.le_refl _))
  have AP_g0_w0 := Lib.hid (OwnV.apart' ho_g0 H_w0_2.out (Nat.le_refl _))
  have BN_w0_g0 := Lib.hid (OwnV.bn ho_g0 K_w0_2.out.lt)
  have H_g0_0 := Lib.hid (ho_g0.based HB_2.out.size)
  clear ho_g0
  have K_w0_3 := Lib.hid (K_w0_2.out.after hb)
  clear K_w0_2
  have H_w0_3 := Lib.hid (OwnV.below (w := (w1.alloc (.cells #[.bool RS0, .slice A_w0 n0 c_w0] 27))) H_w0_2.out hb)
  clear H_w0_2
  have HB_3 := Lib.hid (HB_2.out.trans (hb.mono HB_2.out.size))
  clear hb HB_2
  have K_w0_4 := Lib.hid (K_w0_3.out.alloc (.cells #[.bool RS0, .slice A_g0 n0 c_g0] 27))
  clear K_w0_3
  have K_g0_4 := Lib.hid (Held.new w2 (.bool RS0) (.slice A_g0 n0 c_g0) 27)
  have H_w0_4 := Lib.hid (OwnV.below H_w0_3.out ((Below.refl _ w2).alloc (Nat.le_refl _) (.cells #[.bool RS0, .slice A_g0 n0 c_g0] 27)))
  clear H_w0_3
  have BN_g0_g0 := Lib.hid (OwnV.bn_new H_g0_0.out)
  have H_g0_4 := Lib.hid (OwnV.below H_g0_0.out ((Below.refl _ w2).alloc (Nat.le_refl _) (.cells #[.bool RS0, .slice A_g0 n0 c_g0] 27)))
  clear H_g0_0
  have HB_4 := Lib.hid (HB_3.out.alloc HB_3.out.size (.cells #[.bool RS0, .slice A_g0 n0 c_g0] 27))
  clear HB_3
  have hk_g0_c0_4 := K_g0_4.out.c0
  have hk_g0_c1_4 := K_g0_4.out.c1
  have hk_w0_c0_4 := K_w0_4.out.c0
  have hk_w0_c1_4 := K_w0_4.out.c1
  go_wp2_with fail
  refine (eqBigInt_same RS0 A_g0 A_w0 n0 c_g0 c_w0 R0 _ H_g0_4.out.row H_w0_4.out.row (by unfold maxLen; omega)).mono ?_
  rintro e w3 ⟨rfl, hb⟩
  have K_w0_5 := Lib.hid (K_w0_4.out.after hb)
  clear K_w0_4
  have K_g0_5 := Lib.hid (K_g0_4.out.after hb)
  clear K_g0_4
  have H_w0_5 := Lib.hid (OwnV.below (w := (w2.alloc (.cells #[.bool RS0, .slice A_g0 n0 c_g0] 27))) H_w0_4.out hb)
  clear H_w0_4
  have H_g0_5 := Lib.hid (OwnV.below (w := (w2.alloc (.cells #[.bool RS0, .slice A_g0 n0 c_g0] 27))) H_g0_4.out hb)
  clear H_g0_4
  have HB_5 := Lib.hid (HB_4.out.trans (hb.mono HB_4.out.size))
  clear hb HB_4
  clear hk_g0_c0_4
  clear hk_g0_c1_4
  clear hk_w0_c0_4
  clear hk_w0_c1_4
  have hk_g0_c0_5 := K_g0_5.out.c0
  have hk_g0_c1_5 := K_g0_5.out.c1
  go_wp2_with fail
  refine (markBigInt_at RS0 A_g0 n0 c_g0 (1) W.heap.size _ (by first | rfl | omega) _ _ H_g0_5.out (by omega)).mono ?_
  rintro e w4 ⟨rfl, ho, hg⟩
  have K_w0_6 := Lib.hid (K_w0_5.out.grown hg BN_w0_g0.out)
  clear K_w0_5
  have K_g0_6 := Lib.hid (K_g0_5.out.grown hg BN_g0_g0.out)
  clear K_g0_5
  have HB_6 := Lib.hid (HB_5.out.grown hg HB_5.out.size (fun k hk => (H_g0_5.out.lt k hk).1))
  clear HB_5
  have H_w0_6 := Lib.hid (H_w0_5.out.kept hg AP_w0_g0.out)
  clear H_w0_5
  clear H_g0_5
  have H_g0_6 := Lib.hid ho
  clear ho hg
  clear hk_g0_c0_5
  clear hk_g0_c1_5
  have hk_g0_c0_6 := K_g0_6.out.c0
  have hk_g0_c1_6 := K_g0_6.out.c1
  go_wp2_with fail
  refine (heldBigInt_at RS0 A_g0 n0 c_g0 (1) _ (by first | rfl | omega) _ H_g0_6.out.row (by omega)).mono ?_
  rintro e w5 ⟨rfl, hb⟩
  have K_w0_7 := Lib.hid (K_w0_6.out.after hb)
  clear K_w0_6
  have K_g0_7 := Lib.hid (K_g0_6.out.after hb)
  clear K_g0_6
  have H_w0_7 := Lib.hid (OwnV.below (w := w4) H_w0_6.out hb)
  clear H_w0_6
  have H_g0_7 := Lib.hid (OwnV.below (w := w4) H_g0_6.out hb)
  clear H_g0_6
  have HB_7 := Lib.hid (HB_6.out.trans (hb.mono HB_6.out.size))
  clear hb HB_6
  clear hk_g0_c0_6
  clear hk_g0_c1_6
  go_wp2_with fail
  refine (parseBigInt_impl a0 _ (by unfold maxLen; omega)).mono ?_
  rintro e w6 ⟨v_h0, rfl, ho_h0, hb⟩
  rw [HS0.out]
  rw [HR0.out] at ho_h0
  obtain ⟨A_h0, c_h0, hv⟩ := ho_h0.shape
  rw [HN0.out] at hv
  subst hv
  have AP_w0_h0 := Lib.hid (OwnV.apart H_w0_7.out ho_h0 (Nat.le_refl _))
  have AP_h0_w0 := Lib.hid (OwnV.apart' ho_h0 H_w0_7.out (Nat.le_refl _))
  have AP_g0_h0 := Lib.hid (OwnV.apart H_g0_7.out ho_h0 (Nat.le_refl _))
  have AP_h0_g0 := Lib.hid (OwnV.apart' ho_h0 H_g0_7.out (Nat.le_refl _))
  have H_h0_0 := Lib.hid (ho_h0.based HB_7.out.size)
  clear ho_h0
  have K_w0_8 := Lib.hid (K_w0_7.out.after hb)
  clear K_w0_7
  have K_g0_8 := Lib.hid (K_g0_7.out.after hb)
  clear K_g0_7
  have H_w0_8 := Lib.hid (OwnV.below (w := w5) H_w0_7.out hb)
  clear H_w0_7
  have H_g0_8 := Lib.hid (OwnV.below (w := w5) H_g0_7.out hb)
  clear H_g0_7
  have HB_8 := Lib.hid (HB_7.out.trans (hb.mono HB_7.out.size))
  clear hb HB_7
  have K_w0_9 := Lib.hid (K_w0_8.out.alloc (.cells #[.bool RS0, .slice A_h0 n0 c_h0] 27))
  clear K_w0_8
  have K_g0_9 := Lib.hid (K_g0_8.out.alloc (.cells #[.bool RS0, .slice A_h0 n0 c_h0] 27))
  clear K_g0_8
  have K_h0_9 := Lib.hid (Held.new w6 (.bool RS0) (.slice A_h0 n0 c_h0) 27)
  have H_w0_9 := Lib.hid (OwnV.below H_w0_8.out ((Below.refl _ w6).alloc (Nat.le_refl _) (.cells #[.bool RS0, .slice A_h0 n0 c_h0] 27)))
  clear H_w0_8
  have BN_h0_g0 := Lib.hid (OwnV.bn_new H_g0_8.out)
  have H_g0_9 := Lib.hid (OwnV.below H_g0_8.out ((Below.refl _ w6).alloc (Nat.le_refl _) (.cells #[.bool RS0, .slice A_h0 n0 c_h0] 27)))
  clear H_g0_8
  have H_h0_9 := Lib.hid (OwnV.below H_h0_0.out ((Below.refl _ w6).alloc (Nat.le_refl _) (.cells #[.bool RS0, .slice A_h0 n0 c_h0] 27)))
  clear H_h0_0
  have HB_9 := Lib.hid (HB_8.out.alloc HB_8.out.size (.cells #[.bool RS0, .slice A_h0 n0 c_h0] 27))
  clear HB_8
  have hk_h0_c0_9 := K_h0_9.out.c0
  have hk_h0_c1_9 := K_h0_9.out.c1
  have hk_w0_c0_9 := K_w0_9.out.c0
  have hk_w0_c1_9 := K_w0_9.out.c1
  go_wp2_with fail
  refine (eqBigInt_same RS0 A_h0 A_w0 n0 c_h0 c_w0 R0 _ H_h0_9.out.row H_w0_9.out.row (by unfold maxLen; omega)).mono ?_
  rintro e w7 ⟨rfl, hb⟩
  have K_w0_10 := Lib.hid (K_w0_9.out.after hb)
  clear K_w0_9
  have K_g0_10 := Lib.hid (K_g0_9.out.after hb)
  clear K_g0_9
  have K_h0_10 := Lib.hid (K_h0_9.out.after hb)
  clear K_h0_9
  have H_w0_10 := Lib.hid (OwnV.below (w := (w6.alloc (.cells #[.bool RS0, .slice A_h0 n0 c_h0] 27))) H_w0_9.out hb)
  clear H_w0_9
  have H_g0_10 := Lib.hid (OwnV.below (w := (w6.alloc (.cells #[.bool RS0, .slice A_h0 n0 c_h0] 27))) H_g0_9.out hb)
  clear H_g0_9
  have H_h0_10 := Lib.hid (OwnV.below (w := (w6.alloc (.cells #[.bool RS0, .slice A_h0 n0 c_h0] 27))) H_h0_9.out hb)
  clear H_h0_9
  have HB_10 := Lib.hid (HB_9.out.trans (hb.mono HB_9.out.size))
  clear hb HB_9
  clear hk_h0_c0_9
  clear hk_h0_c1_9
  clear hk_w0_c0_9
  clear hk_w0_c1_9
  have hk_g0_c0_10 := K_g0_10.out.c0
  have hk_g0_c1_10 := K_g0_10.out.c1
  go_wp2_with fail
  refine (heldBigInt_at RS0 A_g0 n0 c_g0 (1) _ (by first | rfl | omega) _ H_g0_10.out.row (by omega)).mono ?_
  rintro e w8 ⟨rfl, hb⟩
  have K_w0_11 := Lib.hid (K_w0_10.out.after hb)
  clear K_w0_10
  have K_g0_11 := Lib.hid (K_g0_10.out.after hb)
  clear K_g0_10
  have K_h0_11 := Lib.hid (K_h0_10.out.after hb)
  clear K_h0_10
  have H_w0_11 := Lib.hid (OwnV.below (w := w7) H_w0_10.out hb)
  clear H_w0_10
  have H_g0_11 := Lib.hid (OwnV.below (w := w7) H_g0_10.out hb)
  clear H_g0_10
  have H_h0_11 := Lib.hid (OwnV.below (w := w7) H_h0_10.out hb)
  clear H_h0_10
  have HB_11 := Lib.hid (HB_10.out.trans (hb.mono HB_10.out.size))
  clear hb HB_10
  clear hk_g0_c0_10
  clear hk_g0_c1_10
  go_wp2
  go_ret
  exact ⟨rfl, HB_11.out⟩

theorem door_met (os : Os) (args : Array Value) : laidMetH Tryd.prog Rows.fnExactParseBigIntRow.laid ((World.doorLaid Tryd.prog 400 os).forCall (fun _ _ => 0) ⟨#[], args, []⟩).memory :=
  laidMetH_of_parts3 (fuel := 8) (laidMet_of_run' 8 (by kernel_rfl) (by kernel_rfl)) (by kernel_rfl) (by kernel_rfl)
set_option maxRecDepth 100000 in
theorem lifted (os : Os) (started : os.Started) (H : Type) (enc : TypeId × Value → H) :
    ReturnsInHanded {} Tryd.checked os 4 .any (fun w args => (Rows.fnExactParseBigIntSpec.pre enc Tryd.prog Tryd.f4 [] false w args ∧ laidMetH Tryd.prog Rows.fnExactParseBigIntRow.laid w) ∧ sizedMet enc Tryd.prog Tryd.f4 (OpenSpec.ofChange Rows.fnExactParseBigIntSpec) false w args)
      (Rows.fnExactParseBigIntSpec.post enc Tryd.prog Tryd.f4 false true false false) := by
  refine returnsInHanded_of_change_and (C := Tryd.checked) (X := fun w _ => laidMetH Tryd.prog Rows.fnExactParseBigIntRow.laid w) (fun _ _ _ hh h => h.of_heap hh) own started (by kernel_rfl) Tryd.func4
    (ChangeSpec.witness_shaped (enc := enc) (C := Tryd.checked) (os := os) (X := fun w _ => laidMetH Tryd.prog Rows.fnExactParseBigIntRow.laid w) false (World.doorLaid Tryd.prog 400 os) #[.string ByteArray.empty] 8 rfl (World.shaped_of_RefB (by kernel_rfl) (by kernel_rfl)) (by kernel_rfl) (by kernel_rfl) (by kernel_rfl) (door_met os _)) ?_
  intro W base args ds gs before hval0 hW _ _ hL _
  have hval : ∀ (j : Nat) t v, Tryd.f4.params[j]? = some t → args[j]? = some v → Value.okWide Tryd.prog W .any base t v := hval0
  have hW' := hW
  obtain ⟨p, q, hA0, hV, rfl, hfz, hnd⟩ := hW
  have hA : DataW.TrodAll enc Tryd.prog W 0 (fun _ => true) true Tryd.f4.params.toList args.toList ds p := hA0
  rw [Tryd.params4] at hA hval
  obtain ⟨v0, vs0, d0, ds0, p0, q0, hargs, rfl, rfl, h0, r0⟩ := trodAll_cons hA
  obtain ⟨rfl, rfl, rfl⟩ := trodAll_nil r0
  obtain rfl : args = #[v0] := by cases args; simp_all
  obtain ⟨rfl, rfl⟩ := trodVars_none hV
  obtain ⟨a0, rfl, rfl, rfl, w0⟩ := open_string Tryd.underlying9 (hval 0 9 v0 rfl rfl) h0
  clear hA0 hval0
  refine (walk W (laid3_big hL) a0 w0).mono fun e W' ⟨he, bel⟩ => ?_
  subst he
  exact ⟨_, rfl, _, _, _, [], _, [], hW', trodAll_mk1 (shut_bool Tryd.underlying4 _), (trodAll_cons_mk (shut_string Tryd.underlying9 w0) trodAll_mk0), rfl, bel.frame _, fun h => by cases h⟩

theorem over : Rows.fnExactParseBigIntRow.holds Tryd.pinned (OpenSpec.ofChange Rows.fnExactParseBigIntSpec) :=
  OpenClaim.holds_of_wide 4 Tryd.f4 rfl rfl rfl rfl rfl rfl rfl ⟨rfl, rfl, rfl, rfl, rfl⟩ rfl rfl rfl rfl rfl (by kernel_rfl) Tryd.func4 (by kernel_rfl)
    (of_decide_eq_true (by kernel_rfl)) (by unfold Func.isWrapper; first | (rw [if_pos (by decide +kernel)]; kernel_rfl) | (rw [if_neg (by decide +kernel)]; exact ⟨rfl, rfl⟩))
    (fun os started H enc _ => lifted os started H enc)

theorem bare : Rows.FnExactParseBigIntSaid := over
theorem proved : Rows.FnExactParseBigIntCardSaid :=
  Claim7.holds_tied_plain_at .later [] [.data, .data, .data, .sentinel, .sentinel] true (true, "aff2462aa799d02bcb77f01b8fcf294a7aeae02920d1a650c3b014ad970022c3") true
    bare (fun _ h => by cases h) (by kernel_rfl) (fun _ h => by cases h) fnExactParseBigInt_row_tie rfl ⟨rfl, rfl⟩ (by kernel_rfl) rfl
    (fun f fn hf hfn => by
      obtain rfl : f = 4 := Option.some.inj ((show Tryd.prog.funcNamed "loop.example/g00810/laws.FnExactParseBigInt" = some 4 by kernel_rfl).symm.trans hf) |>.symm
      obtain rfl : fn = Tryd.f4 := (Option.some.inj (Tryd.func4.symm.trans hfn)).symm
      exact ⟨by kernel_rfl, fun j t ht => by
        rw [Tryd.params4] at ht
        have hm : t ∈ [9] := by simpa using Array.mem_of_getElem? ht
        have hall : ([9].all fun u => !Tryd.prog.wantsStandIn u) = true := by kernel_rfl
        exact (show Tryd.prog.wantsStandIn t = false by simpa using List.all_eq_true.1 hall t hm)⟩)
    (by kernel_rfl)
#print axioms proved
end Go.Proofs.YthijfjjeklmemaaDoor.lawParseBigInt
