/- Proved: at every slice of conditionals, impl.IsNet answers as its model spec.IsNet, writes into no argument, the call returns true and changes no memory that was there. Conditions: none. -/
import Derived.Test.YtaboodioabopnaaGreatRows
import Derived.Test.YtaboodioabopnaaGreatNB1
import Derived.Test.YtaboodioabopnaaGreatNOpenL
import Derived.Test.YtaboodioabopnaaGreatNNetAid
import Derived.Test.YtaboodioabopnaaGreatNIsNetI
import Derived.Test.YtaboodioabopnaaGreatNIsNetS
import Derived.WalkKit
import Derived.ProofKit
import Derived.OpenShut
import Derived.ShutString
import Derived.ChangeOld
import Derived.Below
namespace Go.Proofs.YtaboodioabopnaaGreat.lawIsNet
open Go.ChangeShapes Go.WideShapes Go.ChangeAt Go.RowKit
open Go.ChangeMaps (open_string shut_string)
set_option linter.unusedVariables false
theorem own : ownKnob Tryz.prog.godebug = none := by kernel_rfl
theorem laidOut : laidOutB Tryz.prog = true := by kernel_rfl
open Nt Fr
set_option maxRecDepth 100000 in
set_option maxHeartbeats 4000000 in
theorem walk (W : World) (a0 : Option Addr) (len0 cap0 : Nat) (z0 : List Cd) (w0 : CRow W a0 len0 z0 ∧ len0 ≤ cap0 ∧ cap0 ≤ maxLen) :
   Calls Tryz.prog 3 #[.slice a0 len0 cap0] W fun e w' => e = .returned (.bool true) ∧ Below W.heap.size W w' := by
 obtain ⟨hA0, hcap0, hcm0⟩ := w0
 have hlm0 : len0 ≤ 9223372036854775807 := by unfold maxLen at hcm0; omega
 have HZ0 := Lib.hid hA0.len
 have HA0 := Lib.hid hA0
 clear hA0 hcm0 hcap0
 obtain ⟨ok, hok⟩ : ∃ q, netOk (datn z0) = q := ⟨_, rfl⟩
 have HOK := Lib.hid hok
 clear hok
 have S_0 := Lib.hid (St.start W)
 go_enter Tryz.func3, Tryz.ntmps3
 go_wp2_with fail
 refine (szConditionalS_any a0 len0 cap0 z0 1048576 _ (by omega) (by omega) (HA0.out.below S_0.out.below) hlm0).mono ?_
 rintro e w1_ ⟨rfl, hb⟩
 have S_1 := Lib.hid (S_0.out.call hb)
 clear S_0
 clear hb
 by_cases hs0 : (1048576 : Int) < ((len0 + lensC z0 : Nat) : Int)
 · rw [szOf_neg hs0]
   go_wp2
   go_ret
   exact ⟨rfl, S_1.out.below⟩
 rw [szOf_pos hs0]
 obtain ⟨left0, hq0⟩ : ∃ q : Int, 1048576 - ((len0 + lensC z0 : Nat) : Int) = q := ⟨_, rfl⟩
 have hl0 : 0 ≤ left0 ∧ left0 ≤ 1048576 := by omega
 have HN0 := Lib.hid (show len0 + lensC z0 ≤ 1048576 by omega)
 have hn0 : len0 ≤ 1048576 := by omega
 rw [hq0]
 clear hq0 hs0
 go_wp2_with fail
 refine (toConditionalS_any a0 len0 cap0 z0 _ (HA0.out.below S_1.out.below) HN0.out).mono ?_
 rintro e w2_ ⟨bt, yt, rfl, hd, hsh, hst⟩
 rw [HZ0.out]
 have HDt := Lib.hid hd
 have HSt := Lib.hid hsh
 have HYt := Lib.hid (show yt.length = len0 by have h1 := congrArg List.length hd; simp only [datYc, List.length_map, datn_len] at h1; rw [h1]; exact HZ0.out)
 have HMt := Lib.hid (cds_small HA0.out hd (by have := HN0.out; omega))
 have S_2 := Lib.hid (show St W w2_ ((((bt, cellsY yt) :: yt.map blkC) ++ [])) ((yt.flatMap chksC ++ [])) from S_1.out.over hst)
 clear S_1
 clear hd hsh hst
 go_wp2_with fail
 refine (isNet_s (some ⟨bt, 0, none⟩) len0 len0 (yt.map Yc.cd) _ (HYt.out ▸ S_2.out.crow (by simp) (fun y hy => by simp [List.mem_map_of_mem hy]) (fun y hy l hl => by simp only [List.mem_append, List.mem_flatMap]; first | exact .inl ⟨y, hy, hl⟩ | exact .inr (.inl ⟨y, hy, hl⟩)) HSt.out) (Nat.le_refl _) (by unfold maxLen; omega) hn0 HMt.out).mono ?_
 rintro e w3_ ⟨rfl, hb⟩
 have S_3 := Lib.hid (show St W w3_ ((((bt, cellsY yt) :: yt.map blkC) ++ [])) ((yt.flatMap chksC ++ [])) from S_2.out.call hb)
 clear S_2
 clear hb
 rw [datn_yc, HDt.out, HOK.out]
 have S_4 := Lib.hid (show St W w3_ ([]) ([]) from S_3.out.sub (by simp) (by simp))
 clear S_3
 go_wp2_with fail
 refine (toConditionalS_any a0 len0 cap0 z0 _ (HA0.out.below S_4.out.below) HN0.out).mono ?_
 rintro e w4_ ⟨bx, yx, rfl, hd, hsh, hst⟩
 rw [HZ0.out]
 have HDx := Lib.hid hd
 have HSx := Lib.hid hsh
 have HYx := Lib.hid (show yx.length = len0 by have h1 := congrArg List.length hd; simp only [datYc, List.length_map, datn_len] at h1; rw [h1]; exact HZ0.out)
 have HMx := Lib.hid (cds_small HA0.out hd (by have := HN0.out; omega))
 have S_5 := Lib.hid (show St W w4_ ((((bx, cellsY yx) :: yx.map blkC) ++ [])) ((yx.flatMap chksC ++ [])) from S_4.out.over hst)
 clear S_4
 clear hd hsh hst
 go_wp2_with fail
 refine (isNet_i (some ⟨bx, 0, none⟩) len0 len0 (yx.map Yc.cd) _ (HYx.out ▸ S_5.out.crow (by simp) (fun y hy => by simp [List.mem_map_of_mem hy]) (fun y hy l hl => by simp only [List.mem_append, List.mem_flatMap]; first | exact .inl ⟨y, hy, hl⟩ | exact .inr (.inl ⟨y, hy, hl⟩)) HSx.out) (Nat.le_refl _) (by unfold maxLen; omega) hn0 HMx.out).mono ?_
 rintro e w5_ ⟨rfl, hb⟩
 have S_6 := Lib.hid (show St W w5_ ((((bx, cellsY yx) :: yx.map blkC) ++ [])) ((yx.flatMap chksC ++ [])) from S_5.out.call hb)
 clear S_5
 clear hb
 rw [datn_yc, HDx.out, HOK.out]
 go_wp2_with fail
 refine (toConditionalS_any a0 len0 cap0 z0 _ (HA0.out.below S_6.out.below) HN0.out).mono ?_
 rintro e w6_ ⟨bu, yu, rfl, hd, hsh, hst⟩
 rw [HZ0.out]
 have HDu := Lib.hid hd
 have HSu := Lib.hid hsh
 have HYu := Lib.hid (show yu.length = len0 by have h1 := congrArg List.length hd; simp only [datYc, List.length_map, datn_len] at h1; rw [h1]; exact HZ0.out)
 have HMu := Lib.hid (cds_small HA0.out hd (by have := HN0.out; omega))
 have S_7 := Lib.hid (show St W w6_ ((((bu, cellsY yu) :: yu.map blkC) ++ (((bx, cellsY yx) :: yx.map blkC) ++ []))) ((yu.flatMap chksC ++ (yx.flatMap chksC ++ []))) from S_6.out.over hst)
 clear S_6
 clear hd hsh hst
 go_wp2_with fail
 refine (eqConditionalS_same (some ⟨bx, 0, none⟩) (some ⟨bu, 0, none⟩) len0 len0 len0 _ _ _ (CSeq.row_ (HYx.out ▸ S_7.out.crow (by simp) (fun y hy => by simp [List.mem_map_of_mem hy]) (fun y hy l hl => by simp only [List.mem_append, List.mem_flatMap]; first | exact .inl ⟨y, hy, hl⟩ | exact .inr (.inl ⟨y, hy, hl⟩)) HSx.out) HMx.out) (CSeq.row_ (HYu.out ▸ S_7.out.crow (by simp) (fun y hy => by simp [List.mem_map_of_mem hy]) (fun y hy l hl => by simp only [List.mem_append, List.mem_flatMap]; first | exact .inl ⟨y, hy, hl⟩ | exact .inr (.inl ⟨y, hy, hl⟩)) HSu.out) HMu.out) (((datn_yc yx).trans HDx.out).trans ((datn_yc yu).trans HDu.out).symm) hn0 HMx.out).mono ?_
 rintro e w7_ ⟨rfl, hb⟩
 have S_8 := Lib.hid (show St W w7_ ((((bu, cellsY yu) :: yu.map blkC) ++ (((bx, cellsY yx) :: yx.map blkC) ++ []))) ((yu.flatMap chksC ++ (yx.flatMap chksC ++ []))) from S_7.out.call hb)
 clear S_7
 clear hb
 go_wp2
 go_ret
 exact ⟨rfl, S_8.out.below⟩
set_option maxRecDepth 100000 in
theorem lifted (os : Os) (started : os.Started) (H : Type) (enc : TypeId × Value → H) :
   ReturnsInHanded {} Tryz.checked os 3 .any (Rows.fnExactIsNetSpec.pre6 enc Tryz.prog Tryz.f3 Rows.fnExactIsNetRow.domain false) (Rows.fnExactIsNetSpec.post enc Tryz.prog Tryz.f3 false true false false) := by
 refine returnsInHanded_of_change (C := Tryz.checked) own started (by kernel_rfl) Tryz.func3
   (ChangeSpec.witness6 (enc := enc) (C := Tryz.checked) false ⟨#[], #[.slice none 0 0], []⟩ 8 (by kernel_rfl) (by kernel_rfl) (by kernel_rfl) (by kernel_rfl)) ?_
 intro W base args ds gs before hval0 hW hcnd _
 have hval : ∀ (j : Nat) t v, Tryz.f3.params[j]? = some t → args[j]? = some v → Value.okWide Tryz.prog W .any base t v := hval0
 have hW' := hW
 obtain ⟨p, q, hA0, hV, rfl, hfz, hnd⟩ := hW
 have hA : DataW.TrodAll enc Tryz.prog W 0 (fun _ => true) true Tryz.f3.params.toList args.toList ds p := hA0
 rw [Tryz.params3] at hA hval
 obtain ⟨v0, vs0, d0, ds0, p0, q0, hargs, rfl, rfl, h0, r0⟩ := trodAll_cons hA
 obtain ⟨rfl, rfl, rfl⟩ := trodAll_nil r0
 obtain rfl : args = #[v0] := by cases args; simp_all
 obtain ⟨rfl, rfl⟩ := trodVars_none hV
 obtain ⟨a0, len0, cap0, rfl⟩ := okWide_slice Tryz.underlying22 (hval 0 22 v0 rfl rfl)
 have k0 := h0
 have lt0 : ∀ x ∈ p0, x.block < W.heap.size := by obtain ⟨m, hm⟩ := k0; exact DataW.trod_lt m _ _ _ hm
 obtain ⟨z0, w0⟩ := isCondS_of condT_p Tryz.underlying22 h0
 clear hA0 hval0
 refine (walk W a0 len0 cap0 z0 w0).mono fun e W' ⟨he, bel⟩ => ?_
 subst he
 exact ⟨_, rfl, _, _, _, [], _, [], hW', trodAll_mk1 (shut_bool Tryz.underlying4 _), (trodAll_cons_mk (Below.trod laidOut (by kernel_rfl) (of_decide_eq_true (by kernel_rfl)) k0 bel lt0) trodAll_mk0), rfl, bel.frame _, fun h => by cases h⟩
theorem over : Rows.fnExactIsNetRow.holds Tryz.pinned (OpenSpec.ofChange Rows.fnExactIsNetSpec) :=
 OpenClaim.holds_of_wide 3 Tryz.f3 rfl rfl rfl rfl rfl rfl rfl ⟨rfl, rfl, rfl, rfl, rfl⟩ rfl rfl rfl rfl rfl (by kernel_rfl) Tryz.func3 (by kernel_rfl)
   (of_decide_eq_true (by kernel_rfl)) (by unfold Func.isWrapper; first | (rw [if_pos (by decide +kernel)]; kernel_rfl) | (rw [if_neg (by decide +kernel)]; exact ⟨rfl, rfl⟩))
   (fun os started H enc _ => lifted os started H enc)
theorem proved : Rows.FnExactIsNetSaid := over
#print axioms proved
end Go.Proofs.YtaboodioabopnaaGreat.lawIsNet
