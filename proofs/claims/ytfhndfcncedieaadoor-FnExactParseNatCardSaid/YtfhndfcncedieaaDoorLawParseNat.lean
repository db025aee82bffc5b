/- Proved: at every string, impl.ParseNat answers as its model spec.ParseNat in every result, writes into no argument, its answer owns its memory, the call returns true and changes no memory that was there; the listed variables of the library are tied to the text that lays them. Conditions: none. -/
import Derived.Test.YtfhndfcncedieaaDoorRows
import Derived.Test.YtfhndfcncedieaaDoorHelpI
import Derived.Test.YtfhndfcncedieaaDoorOpen
import Derived.Test.YtfhndfcncedieaaDoorParseNat
import Derived.Test.YtfhndfcncedieaaDoorLaidNat
import Derived.Test.YtfhndfcncedieaaDoorCards
import Derived.Test.YtfhndfcncedieaaDoorTie
import Derived.WalkKit
import Derived.ProofKit
import Derived.OpenShut
import Derived.ShutString
import Derived.ChangeOld
import Derived.Below
import Derived.LaidMore
import Derived.Stop.Joined
import Derived.SevenTiedAt
namespace Go.Proofs.YtfhndfcncedieaaDoor.lawParseNat
open Go.ChangeShapes Go.WideShapes Go.ChangeAt Go.RowKit
open Go.ChangeMaps (open_string shut_string)
set_option linter.unusedVariables false

theorem own : ownKnob Tryd.prog.godebug = none := by kernel_rfl
theorem laidOut : laidOutB Tryd.prog = true := by kernel_rfl
open Nt

set_option maxHeartbeats 1000000 in
theorem walk (W : World) (hlaid : Laid3 W) (a0 : ByteArray) (w0 : a0.size ≤ maxLen) :
    Calls Tryd.prog 5 #[.string a0] W fun e w' => e = .returned (.bool true) ∧ Below W.heap.size W w' := by
  have HLD := Lib.hid hlaid
  clear hlaid
  unfold maxLen at w0
  by_cases hs0 : 1048576 < a0.size
  · go_enter Tryd.func5, Tryd.ntmps5
    go_wp2
    go_ret
    exact ⟨rfl, Below.refl _ _⟩
  obtain ⟨R0, hR0⟩ : ∃ R : List Int, nats (parseN a0) = ints R := ⟨_, rfl⟩
  have hN0 : R0.length ≤ 1048576 := by have h : (nats (parseN a0)).length ≤ 1048576 := (by rw [nats_len]; exact Nat.le_trans (parseN_len a0) (by omega)); rw [hR0, ints_len] at h; exact h
  obtain ⟨n0, hn0⟩ : ∃ n, R0.length = n := ⟨_, rfl⟩
  rw [hn0] at hN0
  have HN0 := Lib.hid (show (ints R0).length = n0 by rw [ints_len]; exact hn0)
  have HR0 := Lib.hid hR0
  clear hR0 hn0
  have HB0 := Lib.hid (Below.refl W.heap.size W)
  go_enter Tryd.func5, Tryd.ntmps5
  go_wp2_with fail
  refine (parseNat_spec a0 _ (by unfold maxLen; omega)).mono ?_
  rintro e w1 ⟨v1_0, rfl, ho1_0, hb1⟩
  rw [HR0.out] at ho1_0
  obtain ⟨A_w0, c_w0, hv⟩ := ho1_0.shape
  rw [HN0.out] at hv
  subst hv
  have H_w0_1 := Lib.hid (ho1_0.based HB0.out.size)
  clear ho1_0
  have HB1 := Lib.hid (HB0.out.trans (hb1.mono HB0.out.size))
  clear hb1
  go_wp2_with fail
  refine (parseNat_impl a0 _ (by unfold maxLen; omega)).mono ?_
  rintro e w2 ⟨v2_0, rfl, ho2_0, hb2⟩
  rw [HR0.out] at ho2_0
  obtain ⟨A_g0, c_g0, hv⟩ := ho2_0.shape
  rw [HN0.out] at hv
  subst hv
  have AP_w0_g0 := Lib.hid (OwnV.apart H_w0_1.out ho2_0 (Nat.le_refl _))
  have AP_g0_w0 := Lib.hid (OwnV.apart' ho2_0 H_w0_1.out (Nat.le_refl _))
  have H_w0_2 := Lib.hid (H_w0_1.out.below hb2)
  clear H_w0_1
  have H_g0_2 := Lib.hid (ho2_0.based HB1.out.size)
  clear ho2_0
  have HB2 := Lib.hid (HB1.out.trans (hb2.mono HB1.out.size))
  clear hb2
  go_wp2_with fail
  refine (eqIntS_same A_g0 A_w0 n0 c_g0 c_w0 R0 _ H_g0_2.out.row H_w0_2.out.row (by unfold maxLen; omega)).mono ?_
  rintro e w3 ⟨rfl, hb3⟩
  have H_w0_3 := Lib.hid (H_w0_2.out.below hb3)
  clear H_w0_2
  have H_g0_3 := Lib.hid (H_g0_2.out.below hb3)
  clear H_g0_2
  have HB3 := Lib.hid (HB2.out.trans (hb3.mono HB2.out.size))
  clear hb3
  go_wp2_with fail
  refine (markIntS_at A_g0 n0 c_g0 (1) W.heap.size _ (by first | rfl | omega) _ _ H_g0_3.out (by omega)).mono ?_
  rintro e w4 ⟨rfl, ho4, hg4⟩
  have HB4 := Lib.hid (HB3.out.grown hg4 HB3.out.size (fun k hk => (H_g0_3.out.lt k hk).1))
  have H_w0_4 := Lib.hid (H_w0_3.out.kept hg4 AP_w0_g0.out)
  clear H_w0_3
  clear H_g0_3
  have H_g0_4 := Lib.hid ho4
  clear ho4 hg4
  go_wp2_with fail
  refine (heldIntS_at A_g0 n0 c_g0 (1) _ (by first | rfl | omega) _ H_g0_4.out.row (by omega)).mono ?_
  rintro e w5 ⟨rfl, hb5⟩
  have H_w0_5 := Lib.hid (H_w0_4.out.below hb5)
  clear H_w0_4
  have H_g0_5 := Lib.hid (H_g0_4.out.below hb5)
  clear H_g0_4
  have HB5 := Lib.hid (HB4.out.trans (hb5.mono HB4.out.size))
  clear hb5
  go_wp2_with fail
  refine (parseNat_impl a0 _ (by unfold maxLen; omega)).mono ?_
  rintro e w6 ⟨v6_0, rfl, ho6_0, hb6⟩
  rw [HR0.out] at ho6_0
  obtain ⟨A_tr0, c_tr0, hv⟩ := ho6_0.shape
  rw [HN0.out] at hv
  subst hv
  have H_w0_6 := Lib.hid (H_w0_5.out.below hb6)
  clear H_w0_5
  have H_g0_6 := Lib.hid (H_g0_5.out.below hb6)
  clear H_g0_5
  have H_tr0_6 := Lib.hid (ho6_0.based HB5.out.size)
  clear ho6_0
  have HB6 := Lib.hid (HB5.out.trans (hb6.mono HB5.out.size))
  clear hb6
  go_wp2_with fail
  refine (eqIntS_same A_tr0 A_w0 n0 c_tr0 c_w0 R0 _ H_tr0_6.out.row H_w0_6.out.row (by unfold maxLen; omega)).mono ?_
  rintro e w7 ⟨rfl, hb7⟩
  have H_w0_7 := Lib.hid (H_w0_6.out.below hb7)
  clear H_w0_6
  have H_g0_7 := Lib.hid (H_g0_6.out.below hb7)
  clear H_g0_6
  have H_tr0_7 := Lib.hid (H_tr0_6.out.below hb7)
  clear H_tr0_6
  have HB7 := Lib.hid (HB6.out.trans (hb7.mono HB6.out.size))
  clear hb7
  go_wp2_with fail
  refine (heldIntS_at A_g0 n0 c_g0 (1) _ (by first | rfl | omega) _ H_g0_7.out.row (by omega)).mono ?_
  rintro e w8 ⟨rfl, hb8⟩
  have H_w0_8 := Lib.hid (H_w0_7.out.below hb8)
  clear H_w0_7
  have H_g0_8 := Lib.hid (H_g0_7.out.below hb8)
  clear H_g0_7
  have H_tr0_8 := Lib.hid (H_tr0_7.out.below hb8)
  clear H_tr0_7
  have HB8 := Lib.hid (HB7.out.trans (hb8.mono HB7.out.size))
  clear hb8
  go_wp2
  go_ret
  exact ⟨rfl, HB8.out⟩

theorem door_met (os : Os) (args : Array Value) : laidMetH Tryd.prog Rows.fnExactParseNatRow.laid ((World.doorLaid Tryd.prog 400 os).forCall (fun _ _ => 0) ⟨#[], args, []⟩).memory :=
  laidMetH_of_parts3 (fuel := 8) (laidMet_of_run' 8 (by kernel_rfl) (by kernel_rfl)) (by kernel_rfl) (by kernel_rfl)
set_option maxRecDepth 100000 in
theorem lifted (os : Os) (started : os.Started) (H : Type) (enc : TypeId × Value → H) :
    ReturnsInHanded {} Tryd.checked os 5 .any (fun w args => (Rows.fnExactParseNatSpec.pre enc Tryd.prog Tryd.f5 [] false w args ∧ laidMetH Tryd.prog Rows.fnExactParseNatRow.laid w) ∧ sizedMet enc Tryd.prog Tryd.f5 (OpenSpec.ofChange Rows.fnExactParseNatSpec) false w args)
      (Rows.fnExactParseNatSpec.post enc Tryd.prog Tryd.f5 false true false false) := by
  refine returnsInHanded_of_change_and (C := Tryd.checked) (X := fun w _ => laidMetH Tryd.prog Rows.fnExactParseNatRow.laid w) (fun _ _ _ hh h => h.of_heap hh) own started (by kernel_rfl) Tryd.func5
    (ChangeSpec.witness_shaped (enc := enc) (C := Tryd.checked) (os := os) (X := fun w _ => laidMetH Tryd.prog Rows.fnExactParseNatRow.laid w) false (World.doorLaid Tryd.prog 400 os) #[.string ByteArray.empty] 8 rfl (World.shaped_of_RefB (by kernel_rfl) (by kernel_rfl)) (by kernel_rfl) (by kernel_rfl) (by kernel_rfl) (door_met os _)) ?_
  intro W base args ds gs before hval0 hW _ _ hL _
  have hval : ∀ (j : Nat) t v, Tryd.f5.params[j]? = some t → args[j]? = some v → Value.okWide Tryd.prog W .any base t v := hval0
  have hW' := hW
  obtain ⟨p, q, hA0, hV, rfl, hfz, hnd⟩ := hW
  have hA : DataW.TrodAll enc Tryd.prog W 0 (fun _ => true) true Tryd.f5.params.toList args.toList ds p := hA0
  rw [Tryd.params5] at hA hval
  obtain ⟨v0, vs0, d0, ds0, p0, q0, hargs, rfl, rfl, h0, r0⟩ := trodAll_cons hA
  obtain ⟨rfl, rfl, rfl⟩ := trodAll_nil r0
  obtain rfl : args = #[v0] := by cases args; simp_all
  obtain ⟨rfl, rfl⟩ := trodVars_none hV
  obtain ⟨a0, rfl, rfl, rfl, w0⟩ := open_string Tryd.underlying9 (hval 0 9 v0 rfl rfl) h0
  clear hA0 hval0
  refine (walk W (laid3_nat hL) a0 w0).mono fun e W' ⟨he, bel⟩ => ?_
  subst he
  exact ⟨_, rfl, _, _, _, [], _, [], hW', trodAll_mk1 (shut_bool Tryd.underlying4 _), (trodAll_cons_mk (shut_string Tryd.underlying9 w0) trodAll_mk0), rfl, bel.frame _, fun h => by cases h⟩

theorem over : Rows.fnExactParseNatRow.holds Tryd.pinned (OpenSpec.ofChange Rows.fnExactParseNatSpec) :=
  OpenClaim.holds_of_wide 5 Tryd.f5 rfl rfl rfl rfl rfl rfl rfl ⟨rfl, rfl, rfl, rfl, rfl⟩ rfl rfl rfl rfl rfl (by kernel_rfl) Tryd.func5 (by kernel_rfl)
    (of_decide_eq_true (by kernel_rfl)) (by unfold Func.isWrapper; first | (rw [if_pos (by decide +kernel)]; kernel_rfl) | (rw [if_neg (by decide +kernel)]; exact ⟨rfl, rfl⟩))
    (fun os started H enc _ => lifted os started H enc)

theorem bare : Rows.FnExactParseNatSaid := over
theorem proved : Rows.FnExactParseNatCardSaid :=
  Claim7.holds_tied_plain_at .later [] [.data, .data, .data, .sentinel, .sentinel] true (true, "bb1f608feb47dfb3156a4ae476cb38191bd3d9f39fe00d986a8a56ca4e52546d") true
    bare (fun _ h => by cases h) (by kernel_rfl) (fun _ h => by cases h) fnExactParseNat_row_tie rfl ⟨rfl, rfl⟩ (by kernel_rfl) rfl
    (fun f fn hf hfn => by
      obtain rfl : f = 5 := Option.some.inj ((show Tryd.prog.funcNamed "loop.example/g00810/laws.FnExactParseNat" = some 5 by kernel_rfl).symm.trans hf) |>.symm
      obtain rfl : fn = Tryd.f5 := (Option.some.inj (Tryd.func5.symm.trans hfn)).symm
      exact ⟨by kernel_rfl, fun j t ht => by
        rw [Tryd.params5] at ht
        have hm : t ∈ [9] := by simpa using Array.mem_of_getElem? ht
        have hall : ([9].all fun u => !Tryd.prog.wantsStandIn u) = true := by kernel_rfl
        exact (show Tryd.prog.wantsStandIn t = false by simpa using List.all_eq_true.1 hall t hm)⟩)
    (by kernel_rfl)
#print axioms proved
end Go.Proofs.YtfhndfcncedieaaDoor.lawParseNat
