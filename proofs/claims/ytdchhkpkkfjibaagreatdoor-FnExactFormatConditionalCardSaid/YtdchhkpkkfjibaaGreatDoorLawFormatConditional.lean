/- Proved: at every conditional, impl.FormatConditional answers as its model spec.FormatConditional in every result, writes into no argument, the call returns true and changes no memory that was there; the listed variables of the library are tied to the text that lays them. Conditions: none. -/
import Derived.Test.YtdchhkpkkfjibaaGreatDoorRows
import Derived.Test.YtdchhkpkkfjibaaGreatDoorB1
import Derived.Test.YtdchhkpkkfjibaaGreatDoorOpenL
import Derived.Test.YtdchhkpkkfjibaaGreatDoorCond
import Derived.Test.YtdchhkpkkfjibaaGreatDoorCText
import Derived.Test.YtdchhkpkkfjibaaGreatDoorCTextI
import Derived.Test.YtdchhkpkkfjibaaGreatDoorHand
import Derived.Test.YtdchhkpkkfjibaaGreatDoorOverE
import Derived.Test.YtdchhkpkkfjibaaGreatDoorLaidC
import Derived.Test.YtdchhkpkkfjibaaGreatDoorCards
import Derived.Test.YtdchhkpkkfjibaaGreatDoorTie
import Derived.WalkKit
import Derived.ProofKit
import Derived.OpenShut
import Derived.ShutString
import Derived.ChangeOld
import Derived.Below
import Derived.LaidMore
import Derived.Stop.Joined
import Derived.SevenTiedAt
namespace Go.Proofs.YtdchhkpkkfjibaaGreatDoor.lawFormatConditional
open Go.ChangeShapes Go.WideShapes Go.ChangeAt Go.RowKit
open Go.ChangeMaps (open_string shut_string)
set_option linter.unusedVariables false

theorem own : ownKnob Tryz.prog.godebug = none := by kernel_rfl
theorem laidOut : laidOutB Tryz.prog = true := by kernel_rfl
open Nt Fr

set_option maxRecDepth 100000 in
set_option maxHeartbeats 4000000 in
theorem walk (W : World) (hlaid : Laid1 W) (N0 : Int) (T0 : Fr) (t00 t01 : Value) (a0 : Option Addr) (len0 cap0 : Nat) (z0 : List Rc) (w0 : FrI W T0 t00 t01 ∧ PaRow W a0 len0 z0 ∧ len0 ≤ cap0 ∧ cap0 ≤ maxLen) :
    Calls Tryz.prog 3 #[.agg #[.int .i64 N0, .bool T0.s, t00, t01, .slice a0 len0 cap0]] W fun e w' => e = .returned (.bool true) ∧ Below W.heap.size W w' := by
  have HLD := Lib.hid hlaid
  clear hlaid
  obtain ⟨R, hR⟩ : ∃ z, fmtC N0 T0 (dats z0) = z := ⟨_, rfl⟩
  have HR := Lib.hid hR
  clear hR
  obtain ⟨hT, hA, hcap, hcm⟩ := w0
  have hlm0 : len0 ≤ 9223372036854775807 := by unfold maxLen at hcm; omega
  have HT0 := Lib.hid hT
  have HZ0 := Lib.hid hA.len
  have HA0 := Lib.hid hA
  clear hT hA hcap hcm
  have S_1 := Lib.hid (show St W (W.alloc (.cells #[.int .i64 N0, .bool T0.s, t00, t01, (.slice a0 len0 cap0)] 29)) [(W.heap.size, [.int .i64 N0, .bool T0.s, t00, t01, (.slice a0 len0 cap0)])] [] from ((St.start W).alloc_at (b := W.heap.size) [.int .i64 N0, .bool T0.s, t00, t01, (.slice a0 len0 cap0)] 29 (by first | rfl | simp)))
  go_enter Tryz.func3, Tryz.ntmps3
  go_wp2_with fail
  refine (szConditional_f N0 T0 t00 t01 a0 len0 cap0 z0 _ 1048576 (by omega) (by omega) (S_1.out.frI HT0.out) (HA0.out.below S_1.out.below) hlm0).mono ?_
  rintro e w1_ ⟨rfl, hb⟩
  have S_2 := Lib.hid (S_1.out.call hb)
  clear S_1
  clear hb
  by_cases hs0 : (1048576 : Int) < ((T0.len + len0 + lensR z0 : Nat) : Int)
  · rw [szOf_neg hs0]
    go_wp2
    go_ret
    exact ⟨rfl, S_2.out.below⟩
  rw [szOf_pos hs0]
  obtain ⟨left0, hq0⟩ : ∃ q : Int, 1048576 - ((T0.len + len0 + lensR z0 : Nat) : Int) = q := ⟨_, rfl⟩
  have hl0 : 0 ≤ left0 ∧ left0 ≤ 1048576 ∧ T0.len + len0 + lensR z0 ≤ 1048576 := by omega
  rw [hq0]
  have HN0 := Lib.hid hl0.2.2
  have hn0 : len0 ≤ 1048576 := by omega
  clear hq0 hs0
  have hk_arg0_0_2 := S_2.out.cell 0 0 rfl rfl
  have hk_arg0_1_2 := S_2.out.cell 0 1 rfl rfl
  have hk_arg0_2_2 := S_2.out.cell 0 2 rfl rfl
  have hk_arg0_3_2 := S_2.out.cell 0 3 rfl rfl
  have hk_arg0_4_2 := S_2.out.cell 0 4 rfl rfl
  go_wp2_with fail
  clear hk_arg0_0_2 hk_arg0_1_2 hk_arg0_2_2 hk_arg0_3_2 hk_arg0_4_2
  refine (toConditional_f N0 T0 t00 t01 a0 len0 cap0 z0 _ (S_2.out.frI HT0.out) (HA0.out.below S_2.out.below) HN0.out).mono ?_
  rintro e w2_ ⟨pt, qt, bt, yt, rfl, hd, hsh, hst⟩
  obtain ⟨At, nt, ct, rfl⟩ := ((hst.own 1 rfl).at_ 0 rfl).shape3
  obtain ⟨Bt, mt, dt, rfl⟩ := ((hst.own 1 rfl).at_ 1 rfl).shape3
  rw [HZ0.out]
  have HDt := Lib.hid hd
  have HSt := Lib.hid hsh
  have HYt := Lib.hid (show yt.length = len0 by rw [← dats_len, hd, dats_len]; exact HZ0.out)
  have S_3 := Lib.hid (show St W w2_ [(W.heap.size, [.int .i64 N0, .bool T0.s, t00, t01, (.slice a0 len0 cap0)]), (bt, cellsR yt)] [rowsR yt, [((.slice At nt ct), ints T0.xs), ((.slice Bt mt dt), ints T0.ys)]] from S_2.out.overE hst)
  clear S_2
  clear hd hsh hst
  go_wp2_with fail
  refine (formatConditional_s N0 T0 (.slice At nt ct) (.slice Bt mt dt) (some ⟨bt, 0, none⟩) len0 len0 yt _ (S_3.out.fr 1 0 rfl rfl rfl) (HYt.out ▸ S_3.out.rarg 1 0 HSt.out rfl rfl rfl) hn0).mono ?_
  rintro e w3_ ⟨rfl, hb⟩
  have S_4 := Lib.hid (S_3.out.call hb)
  clear S_3
  clear hb
  rw [HDt.out, HR.out]
  have S_5 := Lib.hid (show St W w3_ [(W.heap.size, [.int .i64 N0, .bool T0.s, t00, t01, (.slice a0 len0 cap0)])] [] from S_4.out.sub (by repeat (first | exact List.Sublist.refl _ | apply List.Sublist.cons_cons | apply List.Sublist.cons)) (by repeat (first | exact List.Sublist.refl _ | apply List.Sublist.cons_cons | apply List.Sublist.cons)))
  clear S_4
  have hk_arg0_0_5 := S_5.out.cell 0 0 rfl rfl
  have hk_arg0_1_5 := S_5.out.cell 0 1 rfl rfl
  have hk_arg0_2_5 := S_5.out.cell 0 2 rfl rfl
  have hk_arg0_3_5 := S_5.out.cell 0 3 rfl rfl
  have hk_arg0_4_5 := S_5.out.cell 0 4 rfl rfl
  go_wp2_with fail
  clear hk_arg0_0_5 hk_arg0_1_5 hk_arg0_2_5 hk_arg0_3_5 hk_arg0_4_5
  refine (toConditional_f N0 T0 t00 t01 a0 len0 cap0 z0 _ (S_5.out.frI HT0.out) (HA0.out.below S_5.out.below) HN0.out).mono ?_
  rintro e w4_ ⟨px, qx, bx, yx, rfl, hd, hsh, hst⟩
  obtain ⟨Ax, nx, cx, rfl⟩ := ((hst.own 1 rfl).at_ 0 rfl).shape3
  obtain ⟨Bx, mx, dx, rfl⟩ := ((hst.own 1 rfl).at_ 1 rfl).shape3
  rw [HZ0.out]
  have HDx := Lib.hid hd
  have HSx := Lib.hid hsh
  have HYx := Lib.hid (show yx.length = len0 by rw [← dats_len, hd, dats_len]; exact HZ0.out)
  have S_6 := Lib.hid (show St W w4_ [(W.heap.size, [.int .i64 N0, .bool T0.s, t00, t01, (.slice a0 len0 cap0)]), (bx, cellsR yx)] [rowsR yx, [((.slice Ax nx cx), ints T0.xs), ((.slice Bx mx dx), ints T0.ys)]] from S_5.out.overE hst)
  clear S_5
  clear hd hsh hst
  have S_7 := Lib.hid (S_6.out.alloc [.int .i64 N0, .bool T0.s, (.slice Ax nx cx), (.slice Bx mx dx), (.slice (some ⟨bx, 0, none⟩) len0 len0)] 37)
  clear S_6
  have hne_arg0_vx := S_7.out.ne 1 0 rfl rfl (by decide)
  have hne_vx_arg0 := S_7.out.ne 0 1 rfl rfl (by decide)
  have hne_x_vx := S_7.out.ne 2 0 rfl rfl (by decide)
  have hne_vx_x := S_7.out.ne 0 2 rfl rfl (by decide)
  have hk_vx_0_7 := S_7.out.cell 0 0 rfl rfl
  have hk_vx_1_7 := S_7.out.cell 0 1 rfl rfl
  have hk_vx_2_7 := S_7.out.cell 0 2 rfl rfl
  have hk_vx_3_7 := S_7.out.cell 0 3 rfl rfl
  have hk_vx_4_7 := S_7.out.cell 0 4 rfl rfl
  go_wp2_with fail
  clear hk_vx_0_7 hk_vx_1_7 hk_vx_2_7 hk_vx_3_7 hk_vx_4_7
  refine (formatConditional_i N0 T0 (.slice Ax nx cx) (.slice Bx mx dx) (some ⟨bx, 0, none⟩) len0 len0 yx _ (S_7.out.fr 1 0 rfl rfl rfl) (HYx.out ▸ S_7.out.rarg 2 0 HSx.out rfl rfl rfl) hn0 (HLD.out.below S_7.out.below)).mono ?_
  rintro e w5_ ⟨rfl, hb⟩
  have S_8 := Lib.hid (S_7.out.call hb)
  clear S_7
  clear hb
  rw [HDx.out, HR.out]
  have hk_vx_0_8 := S_8.out.cell 0 0 rfl rfl
  have hk_vx_1_8 := S_8.out.cell 0 1 rfl rfl
  have hk_vx_2_8 := S_8.out.cell 0 2 rfl rfl
  have hk_vx_3_8 := S_8.out.cell 0 3 rfl rfl
  have hk_vx_4_8 := S_8.out.cell 0 4 rfl rfl
  have hk_arg0_0_8 := S_8.out.cell 1 0 rfl rfl
  have hk_arg0_1_8 := S_8.out.cell 1 1 rfl rfl
  have hk_arg0_2_8 := S_8.out.cell 1 2 rfl rfl
  have hk_arg0_3_8 := S_8.out.cell 1 3 rfl rfl
  have hk_arg0_4_8 := S_8.out.cell 1 4 rfl rfl
  go_wp2
  clear hk_vx_0_8 hk_vx_1_8 hk_vx_2_8 hk_vx_3_8 hk_vx_4_8 hk_arg0_0_8 hk_arg0_1_8 hk_arg0_2_8 hk_arg0_3_8 hk_arg0_4_8
  have mkS_9 : ∀ (w' : World) (bs' : List (Nat × List Value)) (cs' : List Chunk), St W w' ((w4_.heap.size, [.int .i64 N0, .bool T0.s, (.slice Ax nx cx), (.slice Bx mx dx), (.slice (some ⟨bx, 0, none⟩) len0 len0)]) :: (W.heap.size, [.int .i64 N0, .bool T0.s, t00, t01, (.slice a0 len0 cap0)]) :: (bx, cellsR yx) :: bs') cs' → w'.cell? ⟨w4_.heap.size, 0, none⟩ = some (.int .i64 N0) ∧ w'.cell? ⟨w4_.heap.size, 1, none⟩ = some (.bool T0.s) ∧ w'.cell? ⟨w4_.heap.size, 2, none⟩ = some ((.slice Ax nx cx)) ∧ w'.cell? ⟨w4_.heap.size, 3, none⟩ = some ((.slice Bx mx dx)) ∧ w'.cell? ⟨w4_.heap.size, 4, none⟩ = some ((.slice (some ⟨bx, 0, none⟩) len0 len0)) ∧ w'.cell? ⟨W.heap.size, 0, none⟩ = some (.int .i64 N0) ∧ w'.cell? ⟨W.heap.size, 1, none⟩ = some (.bool T0.s) ∧ w'.cell? ⟨W.heap.size, 2, none⟩ = some (t00) ∧ w'.cell? ⟨W.heap.size, 3, none⟩ = some (t01) ∧ w'.cell? ⟨W.heap.size, 4, none⟩ = some ((.slice a0 len0 cap0)) := fun w' bs' cs' h => ⟨h.cell 0 0 rfl rfl, h.cell 0 1 rfl rfl, h.cell 0 2 rfl rfl, h.cell 0 3 rfl rfl, h.cell 0 4 rfl rfl, h.cell 1 0 rfl rfl, h.cell 1 1 rfl rfl, h.cell 1 2 rfl rfl, h.cell 1 3 rfl rfl, h.cell 1 4 rfl rfl⟩
  have SS := Lib.hid S_8.out.drew
  refine wp_region_noPanic ?_
  refine wp_region_held_drew (S := (fun w' => w'.cell? ⟨w4_.heap.size, 0, none⟩ = some (.int .i64 N0) ∧ w'.cell? ⟨w4_.heap.size, 1, none⟩ = some (.bool T0.s) ∧ w'.cell? ⟨w4_.heap.size, 2, none⟩ = some ((.slice Ax nx cx)) ∧ w'.cell? ⟨w4_.heap.size, 3, none⟩ = some ((.slice Bx mx dx)) ∧ w'.cell? ⟨w4_.heap.size, 4, none⟩ = some ((.slice (some ⟨bx, 0, none⟩) len0 len0)) ∧ w'.cell? ⟨W.heap.size, 0, none⟩ = some (.int .i64 N0) ∧ w'.cell? ⟨W.heap.size, 1, none⟩ = some (.bool T0.s) ∧ w'.cell? ⟨W.heap.size, 2, none⟩ = some (t00) ∧ w'.cell? ⟨W.heap.size, 3, none⟩ = some (t01) ∧ w'.cell? ⟨W.heap.size, 4, none⟩ = some ((.slice a0 len0 cap0)))) (by kernel_rfl) ?_ (fun hHeld => ?_)
  · exact mkS_9 _ _ _ SS.out
  repeat'
    first
    | (refine tkH 0 ?_ ⟨some 22, .load 37 (.tmp 5), 37, "exact.go:5364", #[], none⟩ ?_ ?_ (hf := by decide +kernel) (hr := by decide +kernel)
       rotate_left
       · intro w9 hSw; (try dsimp only at hSw); go_simp; try with_reducible rfl
       try simp only [pm, s0, sS])
    | (refine tkH 1 ?_ ⟨some 23, .load 29 (.tmp 1), 29, "exact.go:5364", #[], none⟩ ?_ ?_ (hf := by decide +kernel) (hr := by decide +kernel)
       rotate_left
       · intro w9 hSw; (try dsimp only at hSw); go_simp; try with_reducible rfl
       try simp only [pm, s0, sS])
    | (refine tkH 4 ?_ ⟨some 26, .unOp .not 4 (.tmp 25), 4, "exact.go:5364", #[⟨3, .data⟩], none⟩ ?_ ?_ (hf := by decide +kernel) (hr := by decide +kernel)
       rotate_left
       · intro w9 hSw; (try dsimp only at hSw); go_simp; try with_reducible rfl
       try simp only [pm, s0, sS])
    | (refine AllReadyH.cons (o := ⟨some 24, .call { callee := .value (.func 6), args := #[.tmp 23], argTypes := #[29] }, 37, "exact.go:5364", #[⟨1, .data⟩], none⟩) rfl (fun K hK => ?_) ?_
       go_simp
       go_at_call 6
       refine (toConditional_f N0 T0 t00 t01 a0 len0 cap0 z0 _ (SS.out.frI HT0.out) (HA0.out.below SS.out.below) HN0.out).mono ?_
       rintro e w6_ ⟨pu0, qu0, bu0, yu0, rfl, hd, hsh, hst⟩
       obtain ⟨Au0, nu0, cu0, rfl⟩ := ((hst.own 1 rfl).at_ 0 rfl).shape3
       obtain ⟨Bu0, mu0, du0, rfl⟩ := ((hst.own 1 rfl).at_ 1 rfl).shape3
       rw [HZ0.out]
       have HDu0 := Lib.hid hd
       have HSu0 := Lib.hid hsh
       have HYu0 := Lib.hid (show yu0.length = len0 by rw [← dats_len, hd, dats_len]; exact HZ0.out)
       have SX := Lib.hid (SS.out.overE hst)
       simp only [List.cons_append, List.nil_append] at SX
       clear SS hd hsh hst
       have SS := Lib.hid SX.out
       clear SX
       refine hK.out _ _ (mkS_9 _ _ _ SS.out) (fun hHeld => ?_)
       clear hK K
       try simp only [pm, s0, sS])
    | (refine AllReadyH.cons (o := ⟨some 25, .call { callee := .value (.func 8), args := #[.tmp 22, .tmp 24], argTypes := #[37, 37] }, 4, "exact.go:5364", #[⟨0, .data⟩, ⟨2, .data⟩, ⟨2, .chain⟩], none⟩) rfl (fun K hK => ?_) ?_
       go_simp
       go_at_call 8
       refine (eqConditional_f N0 T0 (.slice Ax nx cx) (.slice Bx mx dx) (.slice Au0 nu0 cu0) (.slice Bu0 mu0 du0) (some ⟨bx, 0, none⟩) (some ⟨bu0, 0, none⟩) len0 len0 len0 yx yu0 _ (SS.out.fr 3 0 rfl rfl rfl).i (SS.out.fr 1 0 rfl rfl rfl).i (HYx.out ▸ SS.out.rrow 2 2 HSx.out rfl rfl rfl) (HYu0.out ▸ SS.out.rrow 3 0 HSu0.out rfl rfl rfl) (HDx.out.trans HDu0.out.symm) hn0).mono ?_
       rintro e w7_ ⟨rfl, hb⟩
       have SX := Lib.hid (SS.out.call hb)
       clear SS hb
       have SS := Lib.hid SX.out
       clear SX
       refine hK.out _ _ (mkS_9 _ _ _ SS.out) (fun hHeld => ?_)
       clear hK K
       try simp only [pm, s0, sS])
    | (refine wpAnyH_ready (rs := [2]) (by decide +kernel) (by simp) ?_)
    | (refine wpAnyH_ready (rs := [3]) (by decide +kernel) (by simp) ?_)
    | (exact AllReadyH.nil)
    | (refine wpAnyH_done (by decide +kernel) ?_ _
       refine NoPanic.normal ?_)
  clear S_8
  have S_10 := Lib.hid (show St W w7_ [(w4_.heap.size, [.int .i64 N0, .bool T0.s, (.slice Ax nx cx), (.slice Bx mx dx), (.slice (some ⟨bx, 0, none⟩) len0 len0)]), (W.heap.size, [.int .i64 N0, .bool T0.s, t00, t01, (.slice a0 len0 cap0)]), (bx, cellsR yx)] [rowsR yx, [((.slice Ax nx cx), ints T0.xs), ((.slice Bx mx dx), ints T0.ys)]] from SS.out.sub (by repeat (first | exact List.Sublist.refl _ | apply List.Sublist.cons_cons | apply List.Sublist.cons)) (by repeat (first | exact List.Sublist.refl _ | apply List.Sublist.cons_cons | apply List.Sublist.cons)))
  clear SS
  go_wp2
  go_ret
  exact ⟨rfl, S_10.out.below⟩

theorem door_met (os : Os) (args : Array Value) : laidMetH Tryz.prog Rows.fnExactFormatConditionalRow.laid ((World.doorLaid Tryz.prog 400 os).forCall (fun _ _ => 0) ⟨#[], args, []⟩).memory :=
  laidMetH_of_parts3 (fuel := 8) (laidMet_of_run' 8 (by kernel_rfl) (by kernel_rfl)) (by kernel_rfl) (by kernel_rfl)
set_option maxRecDepth 100000 in
theorem lifted (os : Os) (started : os.Started) (H : Type) (enc : TypeId × Value → H) :
    ReturnsInHanded {} Tryz.checked os 3 .any (fun w args => (Rows.fnExactFormatConditionalSpec.pre enc Tryz.prog Tryz.f3 [] false w args ∧ laidMetH Tryz.prog Rows.fnExactFormatConditionalRow.laid w) ∧ sizedMet enc Tryz.prog Tryz.f3 (OpenSpec.ofChange Rows.fnExactFormatConditionalSpec) false w args)
      (Rows.fnExactFormatConditionalSpec.post enc Tryz.prog Tryz.f3 false true false false) := by
  refine returnsInHanded_of_change_and (C := Tryz.checked) (X := fun w _ => laidMetH Tryz.prog Rows.fnExactFormatConditionalRow.laid w) (fun _ _ _ hh h => h.of_heap hh) own started (by kernel_rfl) Tryz.func3
    (ChangeSpec.witness_shaped (enc := enc) (C := Tryz.checked) (os := os) (X := fun w _ => laidMetH Tryz.prog Rows.fnExactFormatConditionalRow.laid w) false (World.doorLaid Tryz.prog 400 os) #[.agg #[.int .i64 0, .bool false, .slice none 0 0, .slice none 0 0, .slice none 0 0]] 8 rfl (World.shaped_of_RefB (by kernel_rfl) (by kernel_rfl)) (by kernel_rfl) (by kernel_rfl) (by kernel_rfl) (door_met os _)) ?_
  intro W base args ds gs before hval0 hW _ _ hL _
  have hval : ∀ (j : Nat) t v, Tryz.f3.params[j]? = some t → args[j]? = some v → Value.okWide Tryz.prog W .any base t v := hval0
  have hW' := hW
  obtain ⟨p, q, hA0, hV, rfl, hfz, hnd⟩ := hW
  have hA : DataW.TrodAll enc Tryz.prog W 0 (fun _ => true) true Tryz.f3.params.toList args.toList ds p := hA0
  rw [Tryz.params3] at hA hval
  obtain ⟨v0, vs0, d0, ds0, p0, q0, hargs, rfl, rfl, h0, r0⟩ := trodAll_cons hA
  obtain ⟨rfl, rfl, rfl⟩ := trodAll_nil r0
  obtain rfl : args = #[v0] := by cases args; simp_all
  obtain ⟨rfl, rfl⟩ := trodVars_none hV
  have k0 := h0
  have lt0 : ∀ x ∈ p0, x.block < W.heap.size := by obtain ⟨m, hm⟩ := k0; exact DataW.trod_lt m _ _ _ hm
  obtain ⟨N0, T0, t00, t01, a0, len0, cap0, z0, rfl, w0⟩ := isCond_of condT_p (hval 0 29 v0 rfl rfl) h0
  clear hA0 hval0
  refine (walk W (laid1_cond hL) N0 T0 t00 t01 a0 len0 cap0 z0 w0).mono fun e W' ⟨he, bel⟩ => ?_
  subst he
  exact ⟨_, rfl, _, _, _, [], _, [], hW', trodAll_mk1 (shut_bool Tryz.underlying4 _), (trodAll_cons_mk (Below.trod laidOut (by kernel_rfl) (of_decide_eq_true (by kernel_rfl)) k0 bel lt0) trodAll_mk0), rfl, bel.frame _, fun h => by cases h⟩

theorem over : Rows.fnExactFormatConditionalRow.holds Tryz.pinned (OpenSpec.ofChange Rows.fnExactFormatConditionalSpec) :=
  OpenClaim.holds_of_wide 3 Tryz.f3 rfl rfl rfl rfl rfl rfl rfl ⟨rfl, rfl, rfl, rfl, rfl⟩ rfl rfl rfl rfl rfl (by kernel_rfl) Tryz.func3 (by kernel_rfl)
    (of_decide_eq_true (by kernel_rfl)) (by unfold Func.isWrapper; first | (rw [if_pos (by decide +kernel)]; kernel_rfl) | (rw [if_neg (by decide +kernel)]; exact ⟨rfl, rfl⟩))
    (fun os started H enc _ => lifted os started H enc)

theorem bare : Rows.FnExactFormatConditionalSaid := over
theorem proved : Rows.FnExactFormatConditionalCardSaid :=
  Claim7.holds_tied_plain_at .later [] [.data, .data, .data] true (true, "086766197deab3227f14bb630a2efdddfda124177e8c0d3ba328e84e3c5faddc") false
    bare (fun _ h => by cases h) (by kernel_rfl) (fun _ h => by cases h) fnExactFormatConditional_row_tie rfl ⟨rfl, rfl⟩ (by kernel_rfl) rfl
    (fun f fn hf hfn => by
      obtain rfl : f = 3 := Option.some.inj ((show Tryz.prog.funcNamed "loop.example/g00810/laws.FnExactFormatConditional" = some 3 by kernel_rfl).symm.trans hf) |>.symm
      obtain rfl : fn = Tryz.f3 := (Option.some.inj (Tryz.func3.symm.trans hfn)).symm
      exact ⟨by kernel_rfl, fun j t ht => by
        rw [Tryz.params3] at ht
        have hm : t ∈ [29] := by simpa using Array.mem_of_getElem? ht
        have hall : ([29].all fun u => !Tryz.prog.wantsStandIn u) = true := by kernel_rfl
        exact (show Tryz.prog.wantsStandIn t = false by simpa using List.all_eq_true.1 hall t hm)⟩)
    (by kernel_rfl)
#print axioms proved
end Go.Proofs.YtdchhkpkkfjibaaGreatDoor.lawFormatConditional
