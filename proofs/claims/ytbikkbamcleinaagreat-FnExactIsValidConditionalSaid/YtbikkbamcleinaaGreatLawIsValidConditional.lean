/- Proved: at every conditional, impl.IsValidConditional answers as its model spec.IsValidConditional, writes into no argument, the call returns true and changes no memory that was there. Conditions: none. -/
import Derived.Test.YtbikkbamcleinaaGreatRows
import Derived.Test.YtbikkbamcleinaaGreatB1
import Derived.Test.YtbikkbamcleinaaGreatOpenL
import Derived.Test.YtbikkbamcleinaaGreatCond
import Derived.Test.YtbikkbamcleinaaGreatCondI
import Derived.Test.YtbikkbamcleinaaGreatCondS
import Derived.Test.YtbikkbamcleinaaGreatHand
import Derived.WalkKit
import Derived.ProofKit
import Derived.OpenShut
import Derived.ShutString
import Derived.ChangeOld
import Derived.Below
namespace Go.Proofs.YtbikkbamcleinaaGreat.lawIsValidConditional
open Go.ChangeShapes Go.WideShapes Go.ChangeAt Go.RowKit
open Go.ChangeMaps (open_string shut_string)
set_option linter.unusedVariables false

theorem own : ownKnob Tryz.prog.godebug = none := by kernel_rfl
theorem laidOut : laidOutB Tryz.prog = true := by kernel_rfl
open Nt Fr

set_option maxRecDepth 100000 in
set_option maxHeartbeats 4000000 in
theorem walk (W : World) (N0 : Int) (T0 : Fr) (t00 t01 : Value) (a0 : Option Addr) (len0 cap0 : Nat) (z0 : List Rc) (w0 : FrI W T0 t00 t01 ∧ PaRow W a0 len0 z0 ∧ len0 ≤ cap0 ∧ cap0 ≤ maxLen) :
    Calls Tryz.prog 3 #[.agg #[.int .i64 N0, .bool T0.s, t00, t01, .slice a0 len0 cap0]] W fun e w' => e = .returned (.bool true) ∧ Below W.heap.size W w' := by
  obtain ⟨hT, hA, hcap, hcm⟩ := w0
  have hlm0 : len0 ≤ 9223372036854775807 := by unfold maxLen at hcm; omega
  have HT0 := Lib.hid hT
  have HZ0 := Lib.hid hA.len
  have HA0 := Lib.hid hA
  clear hT hA hcap hcm
  have S_1 := Lib.hid (show St W (W.alloc (.cells #[.int .i64 N0, .bool T0.s, t00, t01, (.slice a0 len0 cap0)] 29)) [(W.heap.size, [.int .i64 N0, .bool T0.s, t00, t01, (.slice a0 len0 cap0)])] [] from ((St.start W).alloc_at (b := W.heap.size) [.int .i64 N0, .bool T0.s, t00, t01, (.slice a0 len0 cap0)] 29 (by first | rfl | simp)))
  go_enter Tryz.func3, Tryz.ntmps3
  go_wp2_with fail
  refine (szConditional_f N0 T0 t00 t01 a0 len0 cap0 z0 _ 1048576 (by omega) (by omega) (S_1.out.frI HT0.out) (HA0.out.below S_1.out.below) hlm0).mono ?_
  rintro e w1_ ⟨rfl, hb⟩
  have S_2 := Lib.hid (S_1.out.call hb)
  clear S_1
  clear hb
  by_cases hs0 : (1048576 : Int) < ((T0.len + len0 + lensR z0 : Nat) : Int)
  · rw [szOf_neg hs0]
    go_wp2
    go_ret
    exact ⟨rfl, S_2.out.below⟩
  rw [szOf_pos hs0]
  obtain ⟨left0, hq0⟩ : ∃ q : Int, 1048576 - ((T0.len + len0 + lensR z0 : Nat) : Int) = q := ⟨_, rfl⟩
  have hl0 : 0 ≤ left0 ∧ left0 ≤ 1048576 ∧ T0.len + len0 + lensR z0 ≤ 1048576 := by omega
  rw [hq0]
  have HN0 := Lib.hid hl0.2.2
  have hn0 : len0 ≤ 1048576 := by omega
  clear hq0 hs0
  obtain ⟨ok, hok⟩ : ∃ q, okC N0 T0 (dats z0) = q := ⟨_, rfl⟩
  have HOK := Lib.hid hok
  clear hok
  have hk_arg0_0_2 := S_2.out.cell 0 0 rfl rfl
  have hk_arg0_1_2 := S_2.out.cell 0 1 rfl rfl
  have hk_arg0_2_2 := S_2.out.cell 0 2 rfl rfl
  have hk_arg0_3_2 := S_2.out.cell 0 3 rfl rfl
  have hk_arg0_4_2 := S_2.out.cell 0 4 rfl rfl
  go_wp2_with fail
  clear hk_arg0_0_2 hk_arg0_1_2 hk_arg0_2_2 hk_arg0_3_2 hk_arg0_4_2
  refine (toConditional_f N0 T0 t00 t01 a0 len0 cap0 z0 _ (S_2.out.frI HT0.out) (HA0.out.below S_2.out.below) HN0.out).mono ?_
  rintro e w2_ ⟨pt, qt, bt, yt, rfl, hd, hsh, hst⟩
  obtain ⟨At, nt, ct, rfl⟩ := ((hst.own 1 rfl).at_ 0 rfl).shape3
  obtain ⟨Bt, mt, dt, rfl⟩ := ((hst.own 1 rfl).at_ 1 rfl).shape3
  rw [HZ0.out]
  have HDt := Lib.hid hd
  have HSt := Lib.hid hsh
  have HYt := Lib.hid (show yt.length = len0 by rw [← dats_len, hd, dats_len]; exact HZ0.out)
  have S_3 := Lib.hid (S_2.out.over hst)
  clear S_2
  clear hd hsh hst
  go_wp2_with fail
  refine (isValidConditional_s N0 T0 (.slice At nt ct) (.slice Bt mt dt) (some ⟨bt, 0, none⟩) len0 len0 yt _ (S_3.out.fr 1 0 rfl rfl rfl) (HYt.out ▸ S_3.out.rarg 0 0 HSt.out rfl rfl rfl) hn0).mono ?_
  rintro e w3_ ⟨rfl, hb⟩
  have S_4 := Lib.hid (S_3.out.call hb)
  clear S_3
  clear hb
  rw [HDt.out, HOK.out]
  have S_5 := Lib.hid (((S_4.out.dropBox 0).drop 0).drop 0)
  clear S_4
  have hk_arg0_0_5 := S_5.out.cell 0 0 rfl rfl
  have hk_arg0_1_5 := S_5.out.cell 0 1 rfl rfl
  have hk_arg0_2_5 := S_5.out.cell 0 2 rfl rfl
  have hk_arg0_3_5 := S_5.out.cell 0 3 rfl rfl
  have hk_arg0_4_5 := S_5.out.cell 0 4 rfl rfl
  go_wp2_with fail
  clear hk_arg0_0_5 hk_arg0_1_5 hk_arg0_2_5 hk_arg0_3_5 hk_arg0_4_5
  refine (toConditional_f N0 T0 t00 t01 a0 len0 cap0 z0 _ (S_5.out.frI HT0.out) (HA0.out.below S_5.out.below) HN0.out).mono ?_
  rintro e w4_ ⟨px, qx, bx, yx, rfl, hd, hsh, hst⟩
  obtain ⟨Ax, nx, cx, rfl⟩ := ((hst.own 1 rfl).at_ 0 rfl).shape3
  obtain ⟨Bx, mx, dx, rfl⟩ := ((hst.own 1 rfl).at_ 1 rfl).shape3
  rw [HZ0.out]
  have HDx := Lib.hid hd
  have HSx := Lib.hid hsh
  have HYx := Lib.hid (show yx.length = len0 by rw [← dats_len, hd, dats_len]; exact HZ0.out)
  have S_6 := Lib.hid (S_5.out.over hst)
  clear S_5
  clear hd hsh hst
  have S_7 := Lib.hid (S_6.out.alloc [.int .i64 N0, .bool T0.s, (.slice Ax nx cx), (.slice Bx mx dx), (.slice (some ⟨bx, 0, none⟩) len0 len0)] 37)
  clear S_6
  have hne_x_vx := S_7.out.ne 1 0 rfl rfl (by decide)
  have hne_vx_x := S_7.out.ne 0 1 rfl rfl (by decide)
  have hne_arg0_vx := S_7.out.ne 2 0 rfl rfl (by decide)
  have hne_vx_arg0 := S_7.out.ne 0 2 rfl rfl (by decide)
  have hk_vx_0_7 := S_7.out.cell 0 0 rfl rfl
  have hk_vx_1_7 := S_7.out.cell 0 1 rfl rfl
  have hk_vx_2_7 := S_7.out.cell 0 2 rfl rfl
  have hk_vx_3_7 := S_7.out.cell 0 3 rfl rfl
  have hk_vx_4_7 := S_7.out.cell 0 4 rfl rfl
  go_wp2_with fail
  clear hk_vx_0_7 hk_vx_1_7 hk_vx_2_7 hk_vx_3_7 hk_vx_4_7
  refine (isValidConditional_i N0 T0 (.slice Ax nx cx) (.slice Bx mx dx) (some ⟨bx, 0, none⟩) len0 len0 yx _ (S_7.out.fr 1 0 rfl rfl rfl) (HYx.out ▸ S_7.out.rarg 1 0 HSx.out rfl rfl rfl) hn0).mono ?_
  rintro e w5_ ⟨rfl, hb⟩
  have S_8 := Lib.hid (S_7.out.call hb)
  clear S_7
  clear hb
  rw [HDx.out, HOK.out]
  have hk_vx_0_8 := S_8.out.cell 0 0 rfl rfl
  have hk_vx_1_8 := S_8.out.cell 0 1 rfl rfl
  have hk_vx_2_8 := S_8.out.cell 0 2 rfl rfl
  have hk_vx_3_8 := S_8.out.cell 0 3 rfl rfl
  have hk_vx_4_8 := S_8.out.cell 0 4 rfl rfl
  have hk_arg0_0_8 := S_8.out.cell 2 0 rfl rfl
  have hk_arg0_1_8 := S_8.out.cell 2 1 rfl rfl
  have hk_arg0_2_8 := S_8.out.cell 2 2 rfl rfl
  have hk_arg0_3_8 := S_8.out.cell 2 3 rfl rfl
  have hk_arg0_4_8 := S_8.out.cell 2 4 rfl rfl
  go_wp2
  clear hk_vx_0_8 hk_vx_1_8 hk_vx_2_8 hk_vx_3_8 hk_vx_4_8 hk_arg0_0_8 hk_arg0_1_8 hk_arg0_2_8 hk_arg0_3_8 hk_arg0_4_8
  have mkS_9 : ∀ (w' : World) (cs' : List Chunk), St W w' [(w4_.heap.size, [.int .i64 N0, .bool T0.s, (.slice Ax nx cx), (.slice Bx mx dx), (.slice (some ⟨bx, 0, none⟩) len0 len0)]), (bx, cellsR yx), (W.heap.size, [.int .i64 N0, .bool T0.s, t00, t01, (.slice a0 len0 cap0)])] cs' → w'.cell? ⟨w4_.heap.size, 0, none⟩ = some (.int .i64 N0) ∧ w'.cell? ⟨w4_.heap.size, 1, none⟩ = some (.bool T0.s) ∧ w'.cell? ⟨w4_.heap.size, 2, none⟩ = some ((.slice Ax nx cx)) ∧ w'.cell? ⟨w4_.heap.size, 3, none⟩ = some ((.slice Bx mx dx)) ∧ w'.cell? ⟨w4_.heap.size, 4, none⟩ = some ((.slice (some ⟨bx, 0, none⟩) len0 len0)) ∧ w'.cell? ⟨W.heap.size, 0, none⟩ = some (.int .i64 N0) ∧ w'.cell? ⟨W.heap.size, 1, none⟩ = some (.bool T0.s) ∧ w'.cell? ⟨W.heap.size, 2, none⟩ = some (t00) ∧ w'.cell? ⟨W.heap.size, 3, none⟩ = some (t01) ∧ w'.cell? ⟨W.heap.size, 4, none⟩ = some ((.slice a0 len0 cap0)) := fun w' cs' h => ⟨h.cell 0 0 rfl rfl, h.cell 0 1 rfl rfl, h.cell 0 2 rfl rfl, h.cell 0 3 rfl rfl, h.cell 0 4 rfl rfl, h.cell 2 0 rfl rfl, h.cell 2 1 rfl rfl, h.cell 2 2 rfl rfl, h.cell 2 3 rfl rfl, h.cell 2 4 rfl rfl⟩
  refine wp_region_noPanic ?_
  refine wp_region_held_drew (S := (fun w' => w'.cell? ⟨w4_.heap.size, 0, none⟩ = some (.int .i64 N0) ∧ w'.cell? ⟨w4_.heap.size, 1, none⟩ = some (.bool T0.s) ∧ w'.cell? ⟨w4_.heap.size, 2, none⟩ = some ((.slice Ax nx cx)) ∧ w'.cell? ⟨w4_.heap.size, 3, none⟩ = some ((.slice Bx mx dx)) ∧ w'.cell? ⟨w4_.heap.size, 4, none⟩ = some ((.slice (some ⟨bx, 0, none⟩) len0 len0)) ∧ w'.cell? ⟨W.heap.size, 0, none⟩ = some (.int .i64 N0) ∧ w'.cell? ⟨W.heap.size, 1, none⟩ = some (.bool T0.s) ∧ w'.cell? ⟨W.heap.size, 2, none⟩ = some (t00) ∧ w'.cell? ⟨W.heap.size, 3, none⟩ = some (t01) ∧ w'.cell? ⟨W.heap.size, 4, none⟩ = some ((.slice a0 len0 cap0)))) (by kernel_rfl) ?_ (fun hHeld => ?_)
  · exact mkS_9 _ _ S_8.out.drew
  refine tkH 0 ?_ ⟨some 22, .load 37 (.tmp 5), 37, "exact.go:5144", #[], none⟩ ?_ ?_
  rotate_left
  · intro w9 hSw; (try dsimp only at hSw); go_simp; try with_reducible rfl
  try simp only [pm, s0, sS]
  refine tkH 1 ?_ ⟨some 23, .load 29 (.tmp 1), 29, "exact.go:5144", #[], none⟩ ?_ ?_
  rotate_left
  · intro w9 hSw; (try dsimp only at hSw); go_simp; try with_reducible rfl
  try simp only [pm, s0, sS]
  refine wpAnyH_ready (rs := [2]) (by kernel_rfl) (by simp) ?_
  refine AllReadyH.cons (o := ⟨some 24, .call { callee := .value (.func 6), args := #[.tmp 23], argTypes := #[29] }, 37, "exact.go:5144", #[⟨1, .data⟩], none⟩) rfl (fun K hK => ?_) AllReadyH.nil
  go_simp
  go_at_call 6
  refine (toConditional_f N0 T0 t00 t01 a0 len0 cap0 z0 _ (S_8.out.drew.frI HT0.out) (HA0.out.below S_8.out.drew.below) HN0.out).mono ?_
  rintro e w6_ ⟨pu, qu, bu, yu, rfl, hd, hsh, hst⟩
  obtain ⟨Au, nu, cu, rfl⟩ := ((hst.own 1 rfl).at_ 0 rfl).shape3
  obtain ⟨Bu, mu, du, rfl⟩ := ((hst.own 1 rfl).at_ 1 rfl).shape3
  rw [HZ0.out]
  have HDu := Lib.hid hd
  have HSu := Lib.hid hsh
  have HYu := Lib.hid (show yu.length = len0 by rw [← dats_len, hd, dats_len]; exact HZ0.out)
  have S_9 := Lib.hid (S_8.out.drew.over hst)
  clear hd hsh hst S_8
  refine hK.out _ _ (⟨S_9.out.cell 1 0 rfl rfl, S_9.out.cell 1 1 rfl rfl, S_9.out.cell 1 2 rfl rfl, S_9.out.cell 1 3 rfl rfl, S_9.out.cell 1 4 rfl rfl, S_9.out.cell 3 0 rfl rfl, S_9.out.cell 3 1 rfl rfl, S_9.out.cell 3 2 rfl rfl, S_9.out.cell 3 3 rfl rfl, S_9.out.cell 3 4 rfl rfl⟩) (fun hHeld2 => ?_)
  clear hK K
  try simp only [pm, s0, sS]
  refine wpAnyH_ready (rs := [3]) (by kernel_rfl) (by simp) ?_
  refine AllReadyH.cons (o := ⟨some 25, .call { callee := .value (.func 8), args := #[.tmp 22, .tmp 24], argTypes := #[37, 37] }, 4, "exact.go:5144", #[⟨0, .data⟩, ⟨2, .data⟩, ⟨2, .chain⟩], none⟩) rfl (fun K hK => ?_) AllReadyH.nil
  go_simp
  go_at_call 8
  refine (eqConditional_f N0 T0 (.slice Ax nx cx) (.slice Bx mx dx) (.slice Au nu cu) (.slice Bu mu du) (some ⟨bx, 0, none⟩) (some ⟨bu, 0, none⟩) len0 len0 len0 yx yu _ (S_9.out.fr 3 0 rfl rfl rfl).i (S_9.out.fr 1 0 rfl rfl rfl).i (HYx.out ▸ S_9.out.rrow 2 2 HSx.out rfl rfl rfl) (HYu.out ▸ S_9.out.rrow 0 0 HSu.out rfl rfl rfl) (HDx.out.trans HDu.out.symm) hn0).mono ?_
  rintro e w7_ ⟨rfl, hb⟩
  have S_10 := Lib.hid (S_9.out.call hb)
  clear hb S_9
  refine hK.out _ _ (⟨S_10.out.cell 1 0 rfl rfl, S_10.out.cell 1 1 rfl rfl, S_10.out.cell 1 2 rfl rfl, S_10.out.cell 1 3 rfl rfl, S_10.out.cell 1 4 rfl rfl, S_10.out.cell 3 0 rfl rfl, S_10.out.cell 3 1 rfl rfl, S_10.out.cell 3 2 rfl rfl, S_10.out.cell 3 3 rfl rfl, S_10.out.cell 3 4 rfl rfl⟩) (fun hHeld3 => ?_)
  clear hK K
  try simp only [pm, s0, sS]
  refine tkH 4 ?_ ⟨some 26, .unOp .not 4 (.tmp 25), 4, "exact.go:5144", #[⟨3, .data⟩], none⟩ ?_ ?_
  rotate_left
  · intro w9 hSw; (try dsimp only at hSw); go_simp; try with_reducible rfl
  try simp only [pm, s0, sS]
  refine wpAnyH_done (by kernel_rfl) ?_ _
  refine NoPanic.normal ?_
  go_wp2
  go_ret
  exact ⟨rfl, S_10.out.below⟩

set_option maxRecDepth 100000 in
theorem lifted (os : Os) (started : os.Started) (H : Type) (enc : TypeId × Value → H) :
    ReturnsInHanded {} Tryz.checked os 3 .any (Rows.fnExactIsValidConditionalSpec.pre6 enc Tryz.prog Tryz.f3 Rows.fnExactIsValidConditionalRow.domain false) (Rows.fnExactIsValidConditionalSpec.post enc Tryz.prog Tryz.f3 false true false false) := by
  refine returnsInHanded_of_change (C := Tryz.checked) own started (by kernel_rfl) Tryz.func3
    (ChangeSpec.witness6 (enc := enc) (C := Tryz.checked) false ⟨#[], #[.agg #[.int .i64 0, .bool false, .slice none 0 0, .slice none 0 0, .slice none 0 0]], []⟩ 8 (by kernel_rfl) (by kernel_rfl) (by kernel_rfl) (by kernel_rfl)) ?_
  intro W base args ds gs before hval0 hW hcnd _
  have hval : ∀ (j : Nat) t v, Tryz.f3.params[j]? = some t → args[j]? = some v → Value.okWide Tryz.prog W .any base t v := hval0
  have hW' := hW
  obtain ⟨p, q, hA0, hV, rfl, hfz, hnd⟩ := hW
  have hA : DataW.TrodAll enc Tryz.prog W 0 (fun _ => true) true Tryz.f3.params.toList args.toList ds p := hA0
  rw [Tryz.params3] at hA hval
  obtain ⟨v0, vs0, d0, ds0, p0, q0, hargs, rfl, rfl, h0, r0⟩ := trodAll_cons hA
  obtain ⟨rfl, rfl, rfl⟩ := trodAll_nil r0
  obtain rfl : args = #[v0] := by cases args; simp_all
  obtain ⟨rfl, rfl⟩ := trodVars_none hV
  have k0 := h0
  have lt0 : ∀ x ∈ p0, x.block < W.heap.size := by obtain ⟨m, hm⟩ := k0; exact DataW.trod_lt m _ _ _ hm
  obtain ⟨N0, T0, t00, t01, a0, len0, cap0, z0, rfl, w0⟩ := isCond_of condT_p (hval 0 29 v0 rfl rfl) h0
  clear hA0 hval0
  refine (walk W N0 T0 t00 t01 a0 len0 cap0 z0 w0).mono fun e W' ⟨he, bel⟩ => ?_
  subst he
  exact ⟨_, rfl, _, _, _, [], _, [], hW', trodAll_mk1 (shut_bool Tryz.underlying4 _), (trodAll_cons_mk (Below.trod laidOut (by kernel_rfl) (of_decide_eq_true (by kernel_rfl)) k0 bel lt0) trodAll_mk0), rfl, bel.frame _, fun h => by cases h⟩

theorem over : Rows.fnExactIsValidConditionalRow.holds Tryz.pinned (OpenSpec.ofChange Rows.fnExactIsValidConditionalSpec) :=
  OpenClaim.holds_of_wide 3 Tryz.f3 rfl rfl rfl rfl rfl rfl rfl ⟨rfl, rfl, rfl, rfl, rfl⟩ rfl rfl rfl rfl rfl (by kernel_rfl) Tryz.func3 (by kernel_rfl)
    (of_decide_eq_true (by kernel_rfl)) (by unfold Func.isWrapper; first | (rw [if_pos (by decide +kernel)]; kernel_rfl) | (rw [if_neg (by decide +kernel)]; exact ⟨rfl, rfl⟩))
    (fun os started H enc _ => lifted os started H enc)

theorem proved : Rows.FnExactIsValidConditionalSaid := over
#print axioms proved
end Go.Proofs.YtbikkbamcleinaaGreat.lawIsValidConditional
