/- Proved: at all fractions, impl.FormatRat answers as its model spec.FormatRat in every result, writes into no argument, its answer owns its memory, the call returns true and changes no memory that was there; the listed variables of the library are tied to the text that lays them. Conditions: none. -/
import Derived.Test.YtdilgjakodimbaaDoorRows
import Derived.Test.YtdilgjakodimbaaDoorHelpI
import Derived.Test.YtdilgjakodimbaaDoorOpen
import Derived.Test.YtdilgjakodimbaaDoorOpenB
import Derived.Test.YtdilgjakodimbaaDoorHeld
import Derived.Test.YtdilgjakodimbaaDoorHelpR
import Derived.Test.YtdilgjakodimbaaDoorOpenR
import Derived.Test.YtdilgjakodimbaaDoorRatText
import Derived.Test.YtdilgjakodimbaaDoorLaidR
import Derived.Test.YtdilgjakodimbaaDoorCards
import Derived.Test.YtdilgjakodimbaaDoorTie
import Derived.WalkKit
import Derived.ProofKit
import Derived.OpenShut
import Derived.ShutString
import Derived.ChangeOld
import Derived.Below
import Derived.LaidMore
import Derived.Stop.Joined
import Derived.SevenTiedAt
namespace Go.Proofs.YtdilgjakodimbaaDoor.lawFormatRat
open Go.ChangeShapes Go.WideShapes Go.ChangeAt Go.RowKit
open Go.ChangeMaps (open_string shut_string)
set_option linter.unusedVariables false

theorem own : ownKnob Tryd.prog.godebug = none := by kernel_rfl
theorem laidOut : laidOutB Tryd.prog = true := by kernel_rfl
open Nt

set_option maxRecDepth 100000 in
set_option maxHeartbeats 4000000 in
theorem walk (W : World) (hlaid : Laid1 W) (s0 : Bool) (a0 : Option Addr) (len0 cap0 : Nat) (z0 : List Int) (w0 : IsInts .i64 W a0 len0 cap0 z0) (a0b : Option Addr) (len0b cap0b : Nat) (z0b : List Int) (w0b : IsInts .i64 W a0b len0b cap0b z0b) :
    Calls Tryd.prog 4 #[.agg #[.bool s0, .slice a0 len0 cap0, .slice a0b len0b cap0b]] W fun e w' => e = .returned (.bool true) ∧ Below W.heap.size W w' := by
  have HLD := Lib.hid hlaid
  clear hlaid
  obtain ⟨hA0, hcap0, hcm0, hzs0⟩ := w0
  have hlm0 : len0 ≤ 9223372036854775807 := by unfold maxLen at hcm0; omega
  have HZ0 := Lib.hid (show (ints z0).length = len0 from hA0.1)
  have HA0 := Lib.hid (show VRow W a0 len0 (ints z0) from hA0)
  clear hA0 hzs0 hcm0
  obtain ⟨hA0b, hcap0b, hcm0b, hzs0b⟩ := w0b
  have hlm0b : len0b ≤ 9223372036854775807 := by unfold maxLen at hcm0b; omega
  have HZ0b := Lib.hid (show (ints z0b).length = len0b from hA0b.1)
  have HA0b := Lib.hid (show VRow W a0b len0b (ints z0b) from hA0b)
  clear hA0b hzs0b hcm0b
  have HB_0 := Lib.hid ((Below.refl W.heap.size W).alloc (Nat.le_refl _) (.cells #[.bool s0, .slice a0 len0 cap0, .slice a0b len0b cap0b] 38))
  have K_a0_0 := Lib.hid (HeldL.new_at W (W.heap.size) [.bool s0, .slice a0 len0 cap0, .slice a0b len0b cap0b] 38 (by first | rfl | simp))
  go_enter Tryd.func4, Tryd.ntmps4
  go_wp2_with fail
  refine (szRat_any s0 a0 len0 cap0 a0b len0b cap0b 1048576 _ (by omega) (by omega) (by omega) (by omega)).mono ?_
  rintro e w1 ⟨rfl, hb⟩
  have K_a0_1 := Lib.hid (K_a0_0.out.after hb)
  clear K_a0_0
  have HB_1 := Lib.hid (HB_0.out.trans (hb.mono HB_0.out.size))
  clear hb HB_0
  by_cases hs0 : (1048576 : Int) < (len0 + len0b : Nat)
  · rw [szOf_neg hs0]
    go_wp2
    go_ret
    exact ⟨rfl, HB_1.out⟩
  rw [szOf_pos hs0]
  obtain ⟨left0, hq0⟩ : ∃ q : Int, 1048576 - ((len0 + len0b : Nat) : Int) = q := ⟨_, rfl⟩
  have hl00 : 0 ≤ left0 ∧ left0 ≤ 1048576 ∧ len0 + len0b ≤ 1048576 := by omega
  rw [hq0]
  clear hq0 hs0
  have hk_a0_0_1 := K_a0_1.out.cell 0 _ rfl
  have hk_a0_1_1 := K_a0_1.out.cell 1 _ rfl
  have hk_a0_2_1 := K_a0_1.out.cell 2 _ rfl
  go_wp2_with fail
  refine (toRat_any s0 a0 len0 cap0 z0 a0b len0b cap0b z0b _ (HA0.out.below HB_1.out (Nat.le_refl _)) (HA0b.out.below HB_1.out (Nat.le_refl _)) (by omega) (by omega)).mono ?_
  rintro e w2 ⟨v_t0, v_t0b, rfl, ho_t0, ho_t0b, ap01, ap10, hb⟩
  obtain ⟨A_t0, c_t0, hv⟩ := ho_t0.shape
  rw [HZ0.out] at hv
  subst hv
  obtain ⟨A_t0b, c_t0b, hv⟩ := ho_t0b.shape
  rw [HZ0b.out] at hv
  subst hv
  have AP_t0_t0b := Lib.hid ap01
  clear ap01
  have AP_t0b_t0 := Lib.hid ap10
  clear ap10
  have H_t0_0 := Lib.hid (ho_t0.based HB_1.out.size)
  clear ho_t0
  have H_t0b_0 := Lib.hid (ho_t0b.based HB_1.out.size)
  clear ho_t0b
  have K_a0_2 := Lib.hid (K_a0_1.out.after hb)
  clear K_a0_1
  have HB_2 := Lib.hid (HB_1.out.trans (hb.mono HB_1.out.size))
  clear hb HB_1
  clear hk_a0_0_1
  clear hk_a0_1_1
  clear hk_a0_2_1
  go_wp2_with fail
  refine (formatRat_spec s0 A_t0 len0 c_t0 z0 A_t0b len0b c_t0b z0b _ H_t0_0.out.arg H_t0b_0.out.arg).mono ?_
  rintro e w3 ⟨rfl, hb⟩
  have K_a0_3 := Lib.hid (K_a0_2.out.after hb)
  clear K_a0_2
  have H_t0_3 := Lib.hid (OwnV.below (w := w2) H_t0_0.out hb)
  clear H_t0_0
  have H_t0b_3 := Lib.hid (OwnV.below (w := w2) H_t0b_0.out hb)
  clear H_t0b_0
  have HB_3 := Lib.hid (HB_2.out.trans (hb.mono HB_2.out.size))
  clear hb HB_2
  clear H_t0_3
  clear H_t0b_3
  have hk_a0_0_3 := K_a0_3.out.cell 0 _ rfl
  have hk_a0_1_3 := K_a0_3.out.cell 1 _ rfl
  have hk_a0_2_3 := K_a0_3.out.cell 2 _ rfl
  go_wp2_with fail
  refine (toRat_any s0 a0 len0 cap0 z0 a0b len0b cap0b z0b _ (HA0.out.below HB_3.out (Nat.le_refl _)) (HA0b.out.below HB_3.out (Nat.le_refl _)) (by omega) (by omega)).mono ?_
  rintro e w4 ⟨v_x0, v_x0b, rfl, ho_x0, ho_x0b, ap01, ap10, hb⟩
  obtain ⟨A_x0, c_x0, hv⟩ := ho_x0.shape
  rw [HZ0.out] at hv
  subst hv
  obtain ⟨A_x0b, c_x0b, hv⟩ := ho_x0b.shape
  rw [HZ0b.out] at hv
  subst hv
  have AP_x0_x0b := Lib.hid ap01
  clear ap01
  have AP_x0b_x0 := Lib.hid ap10
  clear ap10
  have BN_a0_x0 := Lib.hid (OwnV.bn ho_x0 K_a0_3.out.lt)
  have H_x0_0 := Lib.hid (ho_x0.based HB_3.out.size)
  clear ho_x0
  have BN_a0_x0b := Lib.hid (OwnV.bn ho_x0b K_a0_3.out.lt)
  have H_x0b_0 := Lib.hid (ho_x0b.based HB_3.out.size)
  clear ho_x0b
  have K_a0_4 := Lib.hid (K_a0_3.out.after hb)
  clear K_a0_3
  have HB_4 := Lib.hid (HB_3.out.trans (hb.mono HB_3.out.size))
  clear hb HB_3
  clear hk_a0_0_3
  clear hk_a0_1_3
  clear hk_a0_2_3
  have K_a0_5 := Lib.hid (K_a0_4.out.alloc (.cells #[.bool s0, .slice A_x0 len0 c_x0, .slice A_x0b len0b c_x0b] 43))
  clear K_a0_4
  have K_x0_5 := Lib.hid (HeldL.new w4 [.bool s0, .slice A_x0 len0 c_x0, .slice A_x0b len0b c_x0b] 43)
  have BN_x0_x0 := Lib.hid (OwnV.bn_new H_x0_0.out)
  have H_x0_5 := Lib.hid (OwnV.below H_x0_0.out ((Below.refl _ w4).alloc (Nat.le_refl _) (.cells #[.bool s0, .slice A_x0 len0 c_x0, .slice A_x0b len0b c_x0b] 43)))
  clear H_x0_0
  have BN_x0_x0b := Lib.hid (OwnV.bn_new H_x0b_0.out)
  have H_x0b_5 := Lib.hid (OwnV.below H_x0b_0.out ((Below.refl _ w4).alloc (Nat.le_refl _) (.cells #[.bool s0, .slice A_x0 len0 c_x0, .slice A_x0b len0b c_x0b] 43)))
  clear H_x0b_0
  have HB_5 := Lib.hid (HB_4.out.alloc HB_4.out.size (.cells #[.bool s0, .slice A_x0 len0 c_x0, .slice A_x0b len0b c_x0b] 43))
  clear HB_4
  have hk_x0_0_5 := K_x0_5.out.cell 0 _ rfl
  have hk_x0_1_5 := K_x0_5.out.cell 1 _ rfl
  have hk_x0_2_5 := K_x0_5.out.cell 2 _ rfl
  go_wp2_with fail
  refine (formatRat_impl s0 A_x0 len0 c_x0 z0 A_x0b len0b c_x0b z0b _ H_x0_5.out.arg H_x0b_5.out.arg (HLD.out.below HB_5.out)).mono ?_
  rintro e w5 ⟨rfl, hb⟩
  have K_a0_6 := Lib.hid (K_a0_5.out.after hb)
  clear K_a0_5
  have K_x0_6 := Lib.hid (K_x0_5.out.after hb)
  clear K_x0_5
  have H_x0_6 := Lib.hid (OwnV.below (w := (w4.alloc (.cells #[.bool s0, .slice A_x0 len0 c_x0, .slice A_x0b len0b c_x0b] 43))) H_x0_5.out hb)
  clear H_x0_5
  have H_x0b_6 := Lib.hid (OwnV.below (w := (w4.alloc (.cells #[.bool s0, .slice A_x0 len0 c_x0, .slice A_x0b len0b c_x0b] 43))) H_x0b_5.out hb)
  clear H_x0b_5
  have HB_6 := Lib.hid (HB_5.out.trans (hb.mono HB_5.out.size))
  clear hb HB_5
  clear hk_x0_0_5
  clear hk_x0_1_5
  clear hk_x0_2_5
  have hk_x0_0_6 := K_x0_6.out.cell 0 _ rfl
  have hk_x0_1_6 := K_x0_6.out.cell 1 _ rfl
  have hk_x0_2_6 := K_x0_6.out.cell 2 _ rfl
  have hk_a0_0_6 := K_a0_6.out.cell 0 _ rfl
  have hk_a0_1_6 := K_a0_6.out.cell 1 _ rfl
  have hk_a0_2_6 := K_a0_6.out.cell 2 _ rfl
  go_wp2
  go_region_held3 (fun w' => w'.cell? ⟨w4.heap.size, 0, none⟩ = some (.bool s0) ∧ w'.cell? ⟨w4.heap.size, 1, none⟩ = some (.slice A_x0 len0 c_x0) ∧ w'.cell? ⟨w4.heap.size, 2, none⟩ = some (.slice A_x0b len0b c_x0b) ∧ w'.cell? ⟨W.heap.size, 0, none⟩ = some (.bool s0) ∧ w'.cell? ⟨W.heap.size, 1, none⟩ = some (.slice a0 len0 cap0) ∧ w'.cell? ⟨W.heap.size, 2, none⟩ = some (.slice a0b len0b cap0b)) (go_keep)
    (first
      | (go_at_call 21
         refine (toRat_any s0 a0 len0 cap0 z0 a0b len0b cap0b z0b _ (HA0.out.below HB_6.out.drew (Nat.le_refl _)) (HA0b.out.below HB_6.out.drew (Nat.le_refl _)) (by omega) (by omega)).mono ?_
         rintro e w6 ⟨v_tt0, v_tt0b, rfl, ho_tt0, ho_tt0b, ap01, ap10, hb⟩
         obtain ⟨A_tt0, c_tt0, hv⟩ := ho_tt0.shape
         rw [HZ0.out] at hv
         subst hv
         obtain ⟨A_tt0b, c_tt0b, hv⟩ := ho_tt0b.shape
         rw [HZ0b.out] at hv
         subst hv
         have AP_tt0_tt0b := Lib.hid ap01
         clear ap01
         have AP_tt0b_tt0 := Lib.hid ap10
         clear ap10
         have H_tt0_0 := Lib.hid (ho_tt0.based HB_6.out.drew.size)
         clear ho_tt0
         have H_tt0b_0 := Lib.hid (ho_tt0b.based HB_6.out.drew.size)
         clear ho_tt0b
         have K_a0_7 := Lib.hid (K_a0_6.out.drew.after hb)
         clear K_a0_6
         have K_x0_7 := Lib.hid (K_x0_6.out.drew.after hb)
         clear K_x0_6
         have H_x0_7 := Lib.hid (OwnV.below (w := w5.drew) H_x0_6.out hb)
         clear H_x0_6
         have H_x0b_7 := Lib.hid (OwnV.below (w := w5.drew) H_x0b_6.out hb)
         clear H_x0b_6
         have HB_7 := Lib.hid (HB_6.out.drew.trans (hb.mono HB_6.out.drew.size))
         clear hb HB_6
         have hk_x0_0_7 := K_x0_7.out.cell 0 _ rfl
         have hk_x0_1_7 := K_x0_7.out.cell 1 _ rfl
         have hk_x0_2_7 := K_x0_7.out.cell 2 _ rfl
         have hk_a0_0_7 := K_a0_7.out.cell 0 _ rfl
         have hk_a0_1_7 := K_a0_7.out.cell 1 _ rfl
         have hk_a0_2_7 := K_a0_7.out.cell 2 _ rfl)
      | (go_at_call 23
         refine (eqRat_same s0 A_x0 A_tt0 len0 c_x0 c_tt0 z0 A_x0b A_tt0b len0b c_x0b c_tt0b z0b _ H_x0_7.out.row H_tt0_0.out.row H_x0b_7.out.row H_tt0b_0.out.row (by unfold maxLen; omega) (by unfold maxLen; omega)).mono ?_
         rintro e w7 ⟨rfl, hb⟩
         have K_a0_8 := Lib.hid (K_a0_7.out.after hb)
         clear K_a0_7
         have K_x0_8 := Lib.hid (K_x0_7.out.after hb)
         clear K_x0_7
         have H_x0_8 := Lib.hid (OwnV.below (w := w6) H_x0_7.out hb)
         clear H_x0_7
         have H_x0b_8 := Lib.hid (OwnV.below (w := w6) H_x0b_7.out hb)
         clear H_x0b_7
         have H_tt0_8 := Lib.hid (OwnV.below (w := w6) H_tt0_0.out hb)
         clear H_tt0_0
         have H_tt0b_8 := Lib.hid (OwnV.below (w := w6) H_tt0b_0.out hb)
         clear H_tt0b_0
         have HB_8 := Lib.hid (HB_7.out.trans (hb.mono HB_7.out.size))
         clear hb HB_7
         have hk_x0_0_8 := K_x0_8.out.cell 0 _ rfl
         have hk_x0_1_8 := K_x0_8.out.cell 1 _ rfl
         have hk_x0_2_8 := K_x0_8.out.cell 2 _ rfl
         have hk_a0_0_8 := K_a0_8.out.cell 0 _ rfl
         have hk_a0_1_8 := K_a0_8.out.cell 1 _ rfl
         have hk_a0_2_8 := K_a0_8.out.cell 2 _ rfl))
  clear H_tt0_8
  clear H_tt0b_8
  go_wp2
  go_ret
  exact ⟨rfl, HB_8.out⟩

theorem door_met (os : Os) (args : Array Value) : laidMetH Tryd.prog Rows.fnExactFormatRatRow.laid ((World.doorLaid Tryd.prog 400 os).forCall (fun _ _ => 0) ⟨#[], args, []⟩).memory :=
  laidMetH_of_parts3 (fuel := 8) (laidMet_of_run' 8 (by kernel_rfl) (by kernel_rfl)) (by kernel_rfl) (by kernel_rfl)
set_option maxRecDepth 100000 in
theorem lifted (os : Os) (started : os.Started) (H : Type) (enc : TypeId × Value → H) :
    ReturnsInHanded {} Tryd.checked os 4 .any (fun w args => (Rows.fnExactFormatRatSpec.pre enc Tryd.prog Tryd.f4 [] false w args ∧ laidMetH Tryd.prog Rows.fnExactFormatRatRow.laid w) ∧ sizedMet enc Tryd.prog Tryd.f4 (OpenSpec.ofChange Rows.fnExactFormatRatSpec) false w args)
      (Rows.fnExactFormatRatSpec.post enc Tryd.prog Tryd.f4 false true false false) := by
  refine returnsInHanded_of_change_and (C := Tryd.checked) (X := fun w _ => laidMetH Tryd.prog Rows.fnExactFormatRatRow.laid w) (fun _ _ _ hh h => h.of_heap hh) own started (by kernel_rfl) Tryd.func4
    (ChangeSpec.witness_shaped (enc := enc) (C := Tryd.checked) (os := os) (X := fun w _ => laidMetH Tryd.prog Rows.fnExactFormatRatRow.laid w) false (World.doorLaid Tryd.prog 400 os) #[.agg #[.bool false, .slice none 0 0, .slice none 0 0]] 8 rfl (World.shaped_of_RefB (by kernel_rfl) (by kernel_rfl)) (by kernel_rfl) (by kernel_rfl) (by kernel_rfl) (door_met os _)) ?_
  intro W base args ds gs before hval0 hW _ _ hL _
  have hval : ∀ (j : Nat) t v, Tryd.f4.params[j]? = some t → args[j]? = some v → Value.okWide Tryd.prog W .any base t v := hval0
  have hW' := hW
  obtain ⟨p, q, hA0, hV, rfl, hfz, hnd⟩ := hW
  have hA : DataW.TrodAll enc Tryd.prog W 0 (fun _ => true) true Tryd.f4.params.toList args.toList ds p := hA0
  rw [Tryd.params4] at hA hval
  obtain ⟨v0, vs0, d0, ds0, p0, q0, hargs, rfl, rfl, h0, r0⟩ := trodAll_cons hA
  obtain ⟨rfl, rfl, rfl⟩ := trodAll_nil r0
  obtain rfl : args = #[v0] := by cases args; simp_all
  obtain ⟨rfl, rfl⟩ := trodVars_none hV
  have k0 := h0
  have lt0 : ∀ x ∈ p0, x.block < W.heap.size := by obtain ⟨m, hm⟩ := k0; exact DataW.trod_lt m _ _ _ hm
  obtain ⟨s0, a0, len0, cap0, z0, a0b, len0b, cap0b, z0b, rfl, w0, w0b⟩ := isRat_of Tryd.underlying38 Tryd.underlying36 (by kernel_rfl) (by kernel_rfl) (by kernel_rfl) (by kernel_rfl) (by kernel_rfl) (by kernel_rfl) Tryd.underlying4 Tryd.underlying34 Tryd.underlying34 Tryd.underlying3 (by kernel_rfl) (hval 0 38 v0 rfl rfl) h0
  clear hA0 hval0
  refine (walk W (laid1_rat hL) s0 a0 len0 cap0 z0 w0 a0b len0b cap0b z0b w0b).mono fun e W' ⟨he, bel⟩ => ?_
  subst he
  exact ⟨_, rfl, _, _, _, [], _, [], hW', trodAll_mk1 (shut_bool Tryd.underlying4 _), (trodAll_cons_mk (Below.trod laidOut (by kernel_rfl) (of_decide_eq_true (by kernel_rfl)) k0 bel lt0) trodAll_mk0), rfl, bel.frame _, fun h => by cases h⟩

theorem over : Rows.fnExactFormatRatRow.holds Tryd.pinned (OpenSpec.ofChange Rows.fnExactFormatRatSpec) :=
  OpenClaim.holds_of_wide 4 Tryd.f4 rfl rfl rfl rfl rfl rfl rfl ⟨rfl, rfl, rfl, rfl, rfl⟩ rfl rfl rfl rfl rfl (by kernel_rfl) Tryd.func4 (by kernel_rfl)
    (of_decide_eq_true (by kernel_rfl)) (by unfold Func.isWrapper; first | (rw [if_pos (by decide +kernel)]; kernel_rfl) | (rw [if_neg (by decide +kernel)]; exact ⟨rfl, rfl⟩))
    (fun os started H enc _ => lifted os started H enc)

theorem bare : Rows.FnExactFormatRatSaid := over
theorem proved : Rows.FnExactFormatRatCardSaid :=
  Claim7.holds_tied_plain_at .later [] [.data, .data, .data] true (true, "49dc16c195214d18f32f0d0e2af27782907544120f44ec4e732deecaf02b8adb") true
    bare (fun _ h => by cases h) (by kernel_rfl) (fun _ h => by cases h) fnExactFormatRat_row_tie rfl ⟨rfl, rfl⟩ (by kernel_rfl) rfl
    (fun f fn hf hfn => by
      obtain rfl : f = 4 := Option.some.inj ((show Tryd.prog.funcNamed "loop.example/g00810/laws.FnExactFormatRat" = some 4 by kernel_rfl).symm.trans hf) |>.symm
      obtain rfl : fn = Tryd.f4 := (Option.some.inj (Tryd.func4.symm.trans hfn)).symm
      exact ⟨by kernel_rfl, fun j t ht => by
        rw [Tryd.params4] at ht
        have hm : t ∈ [38] := by simpa using Array.mem_of_getElem? ht
        have hall : ([38].all fun u => !Tryd.prog.wantsStandIn u) = true := by kernel_rfl
        exact (show Tryd.prog.wantsStandIn t = false by simpa using List.all_eq_true.1 hall t hm)⟩)
    (by kernel_rfl)
#print axioms proved
end Go.Proofs.YtdilgjakodimbaaDoor.lawFormatRat
