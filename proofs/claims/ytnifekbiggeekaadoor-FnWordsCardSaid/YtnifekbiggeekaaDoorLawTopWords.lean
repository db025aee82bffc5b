/- Proved: at every code, integers are recovered from their text and strings from their parts, the call returns true and changes no memory that was there; the listed variables of the library are tied to the text that lays them. Conditions: none. -/
import Derived.Test.YtnifekbiggeekaaDoorRows
import Derived.Test.YtnifekbiggeekaaDoorLaid
import Derived.Test.YtnifekbiggeekaaDoorMake
import Derived.Test.YtnifekbiggeekaaDoorJoinBack
import Derived.Test.YtnifekbiggeekaaDoorJoinImpl
import Derived.Test.YtnifekbiggeekaaDoorLines
import Derived.Test.YtnifekbiggeekaaDoorName
import Derived.Test.YtnifekbiggeekaaDoorOpen
import Derived.Test.YtnifekbiggeekaaDoorWordsAid
import Derived.Test.YtnifekbiggeekaaDoorCards
import Derived.Test.YtnifekbiggeekaaDoorTie
import Derived.WalkKit
import Derived.ProofKit
import Derived.OpenShut
import Derived.ShutString
import Derived.ChangeOld
import Derived.Below
import Derived.LaidMore
import Derived.Stop.Joined
import Derived.SevenTiedAt
namespace Go.Proofs.YtnifekbiggeekaaDoor.lawTopWords
open Go.ChangeShapes Go.WideShapes Go.ChangeAt Go.RowKit
open Go.ChangeMaps (open_string shut_string)
set_option linter.unusedVariables false

theorem own : ownKnob Tryd.prog.godebug = none := by kernel_rfl
theorem laidOut : laidOutB Tryd.prog = true := by kernel_rfl
open Nu Sp Jn Wm

set_option maxHeartbeats 1000000 in
theorem walk (W : World) (hlaid : Laid3 W) (a0 : Option Addr) (len0 cap0 : Nat) (z0 : List Int) (w0 : IsInts .u8 W a0 len0 cap0 z0) :
    Calls Tryd.prog 3 #[.slice a0 len0 cap0] W fun e w' => e = .returned (.bool true) ∧ Below W.heap.size W w' := by
  obtain ⟨hA, hcap, hcm, hzs⟩ := w0
  have HA := Lib.hid hA
  have HZ := Lib.hid (show ∀ z ∈ z0, 0 ≤ z ∧ z ≤ 255 from fun z hz => bounds_u8 (hzs z hz))
  have HL := Lib.hid hlaid
  have hlm : len0 ≤ maxLen := Nat.le_trans hcap hcm
  unfold maxLen at hlm
  clear hA hzs hcm hcap hlaid
  by_cases hs : 1048576 < len0
  · go_enter Tryd.func3, Tryd.ntmps3
    go_wp2
    go_ret
    exact ⟨rfl, Below.refl _ _⟩
  · go_enter Tryd.func3, Tryd.ntmps3
    go_wp2_with fail
    refine (makeNum_any z0 a0 len0 cap0 _ W (by omega) (by omega) HA.out (by omega) HZ.out).mono ?_
    rintro e w1 ⟨x, rfl, hx0, hx1, hb1⟩
    have HB1 := Lib.hid hb1
    have HL1 := Lib.hid (HL.out.below hb1)
    clear hb1
    go_wp2_with fail
    refine (formatInt_impl _ _ (by omega) (by omega) HL1.out.1).mono ?_
    rintro e w2 ⟨rfl, hb2⟩
    have HB2 := Lib.hid (HB1.out.trans (hb2.mono HB1.out.size))
    have HL2 := Lib.hid (HL1.out.below hb2)
    clear hb2
    obtain ⟨t, hte⟩ : ∃ t, itoaB (x - 30000) = t := ⟨_, rfl⟩
    have hts := itoa_len (x - 30000) (by omega) (by omega)
    rw [hte] at hts
    have HT := Lib.hid hte
    rw [hte]
    clear hte
    go_wp2_with fail
    refine ((parseInt_impl t _ (by omega) HL2.out).mono (fun e w' h => parsed_yes (n := x - 30000) (by omega) (by omega) HT.out.symm h)).mono ?_
    rintro e w3 ⟨rfl, hb3⟩
    have HB3 := Lib.hid (HB2.out.trans (hb3.mono HB2.out.size))
    have HL3 := Lib.hid (HL2.out.below hb3)
    clear hb3
    go_wp2_with fail
    refine (makeText_any z0 a0 len0 cap0 _ (HA.out.below HB3.out (Nat.le_refl _)) (by omega) HZ.out).mono ?_
    rintro e w4 ⟨s, rfl, hss, hb4⟩
    have HB4 := Lib.hid (HB3.out.trans (hb4.mono HB3.out.size))
    clear hb4
    go_wp2_with fail
    refine (splitAny_impl s ⟨#[32]⟩ _ (by omega) (by show 1 ≤ _; omega)).mono ?_
    rintro e w5 ⟨v5, rfl, ho5, hb5⟩
    have hpl := parts_len s ⟨#[32]⟩
    obtain ⟨m, hm⟩ : ∃ m, (parts s ⟨#[32]⟩).length = m := ⟨_, rfl⟩
    rw [hm] at ho5 hpl
    obtain ⟨A5, c5, rfl⟩ := own_shape ho5
    have hcap5 := (own_cap ho5).1
    have HV5 := Lib.hid (VRow.of_own ho5)
    have htot : m + total (parts s ⟨#[32]⟩) ≤ 1050624 := by
      have := parts_total s ⟨#[32]⟩
      omega
    have HM := Lib.hid hm
    have HB5 := Lib.hid (HB4.out.trans (hb5.mono HB4.out.size))
    clear ho5 hb5 hm
    go_wp2_with fail
    refine (join_impl A5 m c5 ⟨#[32]⟩ (parts s ⟨#[32]⟩) _ HV5.out hcap5 (by show 1 ≤ _; omega) htot (by omega)).mono ?_
    rw [join_parts]
    rintro e w6 ⟨rfl, hb6⟩
    have HB6 := Lib.hid (HB5.out.trans (hb6.mono HB5.out.size))
    clear hb6
    go_wp2_with fail
    refine ((isName_impl ⟨#[120, 49]⟩ _ (by show 2 ≤ _; unfold maxLen; omega)).mono (fun e w' h => (show e = .returned (.bool true) ∧ Below w6.heap.size w6 w' from ⟨h.1.trans (by rw [nm_x1]), h.2⟩))).mono ?_
    rintro e w7 ⟨rfl, hb7⟩
    have HB7 := Lib.hid (HB6.out.trans (hb7.mono HB6.out.size))
    clear hb7
    go_wp2_with fail
    refine (splitLines_impl ⟨#[97, 10, 98, 10]⟩ _ (by show 4 ≤ _; omega)).mono ?_
    rintro e w8 ⟨v8, rfl, ho8, hb8⟩
    rw [lines_ab] at ho8
    obtain ⟨A8, c8, rfl⟩ := own_shape ho8
    have HB8 := Lib.hid (HB7.out.trans (hb8.mono HB7.out.size))
    clear ho8 hb8
    go_wp2
    go_ret
    exact ⟨rfl, HB8.out⟩

theorem door_met (os : Os) (args : Array Value) : laidMetH Tryd.prog Rows.fnWordsRow.laid ((World.doorLaid Tryd.prog 400 os).forCall (fun _ _ => 0) ⟨#[], args, []⟩).memory :=
  laidMetH_of_parts3 (fuel := 8) (laidMet_of_run' 8 (by kernel_rfl) (by kernel_rfl)) (by kernel_rfl) (by kernel_rfl)
set_option maxRecDepth 100000 in
theorem lifted (os : Os) (started : os.Started) (H : Type) (enc : TypeId × Value → H) :
    ReturnsInHanded {} Tryd.checked os 3 .any (fun w args => (Rows.fnWordsSpec.pre enc Tryd.prog Tryd.f3 [] false w args ∧ laidMetH Tryd.prog Rows.fnWordsRow.laid w) ∧ sizedMet enc Tryd.prog Tryd.f3 (OpenSpec.ofChange Rows.fnWordsSpec) false w args)
      (Rows.fnWordsSpec.post enc Tryd.prog Tryd.f3 false true false false) := by
  refine returnsInHanded_of_change_and (C := Tryd.checked) (X := fun w _ => laidMetH Tryd.prog Rows.fnWordsRow.laid w) (fun _ _ _ hh h => h.of_heap hh) own started (by kernel_rfl) Tryd.func3
    (ChangeSpec.witness_shaped (enc := enc) (C := Tryd.checked) (os := os) (X := fun w _ => laidMetH Tryd.prog Rows.fnWordsRow.laid w) false (World.doorLaid Tryd.prog 400 os) #[.slice none 0 0] 8 rfl (World.shaped_of_RefB (by kernel_rfl) (by kernel_rfl)) (by kernel_rfl) (by kernel_rfl) (by kernel_rfl) (door_met os _)) ?_
  intro W base args ds gs before hval0 hW _ _ hL _
  have hval : ∀ (j : Nat) t v, Tryd.f3.params[j]? = some t → args[j]? = some v → Value.okWide Tryd.prog W .any base t v := hval0
  have hW' := hW
  obtain ⟨p, q, hA0, hV, rfl, hfz, hnd⟩ := hW
  have hA : DataW.TrodAll enc Tryd.prog W 0 (fun _ => true) true Tryd.f3.params.toList args.toList ds p := hA0
  rw [Tryd.params3] at hA hval
  obtain ⟨v0, vs0, d0, ds0, p0, q0, hargs, rfl, rfl, h0, r0⟩ := trodAll_cons hA
  obtain ⟨rfl, rfl, rfl⟩ := trodAll_nil r0
  obtain rfl : args = #[v0] := by cases args; simp_all
  obtain ⟨rfl, rfl⟩ := trodVars_none hV
  obtain ⟨a0, len0, cap0, rfl⟩ := okWide_slice Tryd.underlying22 (hval 0 22 v0 rfl rfl)
  have k0 := h0
  have lt0 : ∀ x ∈ p0, x.block < W.heap.size := by obtain ⟨m, hm⟩ := k0; exact DataW.trod_lt m _ _ _ hm
  obtain ⟨z0, w0⟩ := isInts_of Tryd.underlying22 Tryd.underlying5 (by kernel_rfl) h0
  clear hA0 hval0
  refine (walk W (laid3_of hL) a0 len0 cap0 z0 w0).mono fun e W' ⟨he, bel⟩ => ?_
  subst he
  exact ⟨_, rfl, _, _, _, [], _, [], hW', trodAll_mk1 (shut_bool Tryd.underlying4 _), (trodAll_cons_mk (Below.trod laidOut (by kernel_rfl) (of_decide_eq_true (by kernel_rfl)) k0 bel lt0) trodAll_mk0), rfl, bel.frame _, fun h => by cases h⟩

theorem over : Rows.fnWordsRow.holds Tryd.pinned (OpenSpec.ofChange Rows.fnWordsSpec) :=
  OpenClaim.holds_of_wide 3 Tryd.f3 rfl rfl rfl rfl rfl rfl rfl ⟨rfl, rfl, rfl, rfl, rfl⟩ rfl rfl rfl rfl rfl (by kernel_rfl) Tryd.func3 (by kernel_rfl)
    (of_decide_eq_true (by kernel_rfl)) (by unfold Func.isWrapper; first | (rw [if_pos (by decide +kernel)]; kernel_rfl) | (rw [if_neg (by decide +kernel)]; exact ⟨rfl, rfl⟩))
    (fun os started H enc _ => lifted os started H enc)

theorem bare : Rows.FnWordsSaid := over
theorem proved : Rows.FnWordsCardSaid :=
  Claim7.holds_tied_plain_at .later [] [.data, .data, .data, .sentinel, .sentinel] true (true, "ae2fe59a56c62bfa8e484228bb46f513461b96f45762f36a5d67ecd710a95d75") true
    bare (fun _ h => by cases h) (by kernel_rfl) (fun _ h => by cases h) fnWords_row_tie rfl ⟨rfl, rfl⟩ (by kernel_rfl) rfl
    (fun f fn hf hfn => by
      obtain rfl : f = 3 := Option.some.inj ((show Tryd.prog.funcNamed "loop.example/g00810/laws.FnWords" = some 3 by kernel_rfl).symm.trans hf) |>.symm
      obtain rfl : fn = Tryd.f3 := (Option.some.inj (Tryd.func3.symm.trans hfn)).symm
      exact ⟨by kernel_rfl, fun j t ht => by
        rw [Tryd.params3] at ht
        have hm : t ∈ [22] := by simpa using Array.mem_of_getElem? ht
        have hall : ([22].all fun u => !Tryd.prog.wantsStandIn u) = true := by kernel_rfl
        exact (show Tryd.prog.wantsStandIn t = false by simpa using List.all_eq_true.1 hall t hm)⟩)
    (by kernel_rfl)
#print axioms proved
end Go.Proofs.YtnifekbiggeekaaDoor.lawTopWords
