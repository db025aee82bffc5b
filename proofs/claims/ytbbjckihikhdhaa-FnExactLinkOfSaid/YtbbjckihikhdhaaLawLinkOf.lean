/- Proved: at every slice of links and every two integers, impl.LinkOf answers as its model spec.LinkOf in every result, writes into no argument, its answer owns its memory, the call returns true and changes no memory that was there. Conditions: none. -/
import Derived.Test.YtbbjckihikhdhaaRows
import Derived.Test.YtbbjckihikhdhaaB1
import Derived.Test.YtbbjckihikhdhaaOpenL
import Derived.Test.YtbbjckihikhdhaaMarkL
import Derived.Test.YtbbjckihikhdhaaLinkOf
import Derived.Test.YtbbjckihikhdhaaNbr
import Derived.WalkKit
import Derived.ProofKit
import Derived.OpenShut
import Derived.ShutString
import Derived.ChangeOld
import Derived.Below
namespace Go.Proofs.Ytbbjckihikhdhaa.lawLinkOf
open Go.ChangeShapes Go.WideShapes Go.ChangeAt Go.RowKit
open Go.ChangeMaps (open_string shut_string)
set_option linter.unusedVariables false

theorem own : ownKnob Try.prog.godebug = none := by kernel_rfl
theorem laidOut : laidOutB Try.prog = true := by kernel_rfl
open Nt Fr

set_option maxRecDepth 100000 in
set_option maxHeartbeats 4000000 in
theorem walk (W : World) (a0 : Option Addr) (len0 cap0 : Nat) (z0 : List Lr) (w0 : IsLinks W a0 len0 cap0 z0) (a1 : Int) (w1 : (Lit.int .i64 a1).wf = true) (a2 : Int) (w2 : (Lit.int .i64 a2).wf = true) :
    Calls Try.prog 13 #[.slice a0 len0 cap0, .int .i64 a1, .int .i64 a2] W fun e w' => e = .returned (.bool true) ∧ Below W.heap.size W w' := by
  obtain ⟨hA, hcap, hcm⟩ := w0
  have hlm : len0 ≤ 9223372036854775807 := by unfold maxLen at hcm; omega
  have HZ := Lib.hid hA.1
  have HA := Lib.hid hA
  clear hA hcm
  have HW1 := Lib.hid w1
  have hb_1 : -9223372036854775808 ≤ a1 ∧ a1 ≤ 9223372036854775807 := by have h := bounds_i64 w1; omega
  clear w1
  have HW2 := Lib.hid w2
  have hb_2 : -9223372036854775808 ≤ a2 ∧ a2 ≤ 9223372036854775807 := by have h := bounds_i64 w2; omega
  clear w2
  obtain ⟨R, hR⟩ : ∃ q, lkAns (okSet z0) (dts z0) a1 a2 = q := ⟨_, rfl⟩
  have HDR := Lib.hid hR
  clear hR
  have S_0 := Lib.hid (St.start W)
  go_enter Try.func13, Try.ntmps13
  go_wp2_with fail
  refine (szLinkS_any a0 len0 cap0 z0 1048576 _ (by omega) (by omega) (HA.out.below S_0.out.below) hlm).mono ?_
  rintro e w1_ ⟨rfl, hb⟩
  have S_1 := Lib.hid (S_0.out.call hb)
  clear S_0
  clear hb
  by_cases hs : (1048576 : Int) < ((len0 + lensL z0 : Nat) : Int)
  · rw [szOf_neg hs]
    go_wp2
    go_ret
    exact ⟨rfl, S_1.out.below⟩
  rw [szOf_pos hs]
  obtain ⟨left0, hq⟩ : ∃ q : Int, 1048576 - ((len0 + lensL z0 : Nat) : Int) = q := ⟨_, rfl⟩
  have hl0 : 0 ≤ left0 := by omega
  have HN := Lib.hid (show len0 + lensL z0 ≤ 1048576 by omega)
  have hl1 : len0 ≤ 1048576 := by omega
  rw [hq]
  clear hq hs
  go_wp2_with fail
  obtain ⟨RA, hRA⟩ : ∃ z, anA R = z := ⟨_, rfl⟩
  obtain ⟨RB, hRB⟩ : ∃ z, anB R = z := ⟨_, rfl⟩
  obtain ⟨RP, hRP⟩ : ∃ z, anP R = z := ⟨_, rfl⟩
  obtain ⟨RQ, hRQ⟩ : ∃ z, anQ R = z := ⟨_, rfl⟩
  obtain ⟨RR, hRR⟩ : ∃ z, anR R = z := ⟨_, rfl⟩
  obtain ⟨rok, hrok⟩ : ∃ z, Option.isSome R = z := ⟨_, rfl⟩
  have HLEN := Lib.hid (show RP.len + RQ.len + RR.len ≤ 1048576 by rw [← hRP, ← hRQ, ← hRR, ← HDR.out]; exact lkAns_len _ _ _)
  have HOA := Lib.hid (show ∀ w e w', OwnAns R w e w' → OwnKB RA RB RP RQ RR rok w e w' from fun w e w' h => by rw [← hRA, ← hRB, ← hRP, ← hRQ, ← hRR, ← hrok]; exact h)
  clear hRA hRB hRP hRQ hRR hrok
  refine (toLinkS_any a0 len0 cap0 z0 _ (HA.out.below S_1.out.below) HN.out).mono ?_
  rintro e w2_ ⟨bt, yt, rfl, hyl, hlk, hst⟩
  rw [HZ.out] at hyl ⊢
  have HYt := Lib.hid hyl
  have HKt := Lib.hid hlk
  have S_2 := Lib.hid (S_1.out.comp hst)
  clear S_1
  clear hyl hlk hst
  go_wp2_with fail
  have HLRt := Lib.hid (show lkAns (okSet yt) (dts yt) a1 a2 = R from (lkAns_like HYt.out HZ.out HKt.out).trans HDR.out)
  refine (((linkOf_s (some ⟨bt, 0, none⟩) len0 len0 yt a1 a2 _ (HYt.out ▸ S_2.out.larg 0 0 rfl rfl) hl1).mono (fun e w h => HOA.out _ e w (HLRt.out ▸ h)))).mono ?_
  rintro e w3_ ⟨v0w, v1w, v2w, v3w, v4w, v5w, rfl, ho, hb⟩
  obtain ⟨A0w, n0w, c0w, rfl⟩ := (ho.at_ 0 rfl).shape3
  obtain ⟨A1w, n1w, c1w, rfl⟩ := (ho.at_ 1 rfl).shape3
  obtain ⟨A2w, n2w, c2w, rfl⟩ := (ho.at_ 2 rfl).shape3
  obtain ⟨A3w, n3w, c3w, rfl⟩ := (ho.at_ 3 rfl).shape3
  obtain ⟨A4w, n4w, c4w, rfl⟩ := (ho.at_ 4 rfl).shape3
  obtain ⟨A5w, n5w, c5w, rfl⟩ := (ho.at_ 5 rfl).shape3
  have S_3 := Lib.hid (S_2.out.rows ho hb)
  clear S_2
  clear ho hb
  have S_4 := Lib.hid (S_3.out.alloc [.int .i64 RA, .int .i64 RB, .bool RP.s, (.slice A0w n0w c0w), (.slice A1w n1w c1w), .bool RQ.s, (.slice A2w n2w c2w), (.slice A3w n3w c3w), .bool RR.s, (.slice A4w n4w c4w), (.slice A5w n5w c5w)] 42)
  clear S_3
  go_wp2_with fail
  refine (toLinkS_any a0 len0 cap0 z0 _ (HA.out.below S_4.out.below) HN.out).mono ?_
  rintro e w4_ ⟨bx, yx, rfl, hyl, hlk, hst⟩
  rw [HZ.out] at hyl ⊢
  have HYx := Lib.hid hyl
  have HKx := Lib.hid hlk
  have S_5 := Lib.hid (S_4.out.comp hst)
  clear S_4
  clear hyl hlk hst
  go_wp2_with fail
  have HLRx := Lib.hid (show lkAns (okSet yx) (dts yx) a1 a2 = R from (lkAns_like HYx.out HZ.out HKx.out).trans HDR.out)
  refine (((linkOf_i (some ⟨bx, 0, none⟩) len0 len0 yx a1 a2 _ (HYx.out ▸ S_5.out.larg 0 0 rfl rfl) hl1).mono (fun e w h => HOA.out _ e w (HLRx.out ▸ h)))).mono ?_
  rintro e w5_ ⟨v0g, v1g, v2g, v3g, v4g, v5g, rfl, ho, hb⟩
  obtain ⟨A0g, n0g, c0g, rfl⟩ := (ho.at_ 0 rfl).shape3
  obtain ⟨A1g, n1g, c1g, rfl⟩ := (ho.at_ 1 rfl).shape3
  obtain ⟨A2g, n2g, c2g, rfl⟩ := (ho.at_ 2 rfl).shape3
  obtain ⟨A3g, n3g, c3g, rfl⟩ := (ho.at_ 3 rfl).shape3
  obtain ⟨A4g, n4g, c4g, rfl⟩ := (ho.at_ 4 rfl).shape3
  obtain ⟨A5g, n5g, c5g, rfl⟩ := (ho.at_ 5 rfl).shape3
  have S_6 := Lib.hid (S_5.out.rows ho hb)
  clear S_5
  clear ho hb
  have S_7 := Lib.hid (S_6.out.alloc [.int .i64 RA, .int .i64 RB, .bool RP.s, (.slice A0g n0g c0g), (.slice A1g n1g c1g), .bool RQ.s, (.slice A2g n2g c2g), (.slice A3g n3g c3g), .bool RR.s, (.slice A4g n4g c4g), (.slice A5g n5g c5g)] 42)
  clear S_6
  have kg0 := S_7.out.cell 0 0 rfl rfl
  have kg1 := S_7.out.cell 0 1 rfl rfl
  have kg2 := S_7.out.cell 0 2 rfl rfl
  have kg3 := S_7.out.cell 0 3 rfl rfl
  have kg4 := S_7.out.cell 0 4 rfl rfl
  have kg5 := S_7.out.cell 0 5 rfl rfl
  have kg6 := S_7.out.cell 0 6 rfl rfl
  have kg7 := S_7.out.cell 0 7 rfl rfl
  have kg8 := S_7.out.cell 0 8 rfl rfl
  have kg9 := S_7.out.cell 0 9 rfl rfl
  have kg10 := S_7.out.cell 0 10 rfl rfl
  have kw0 := S_7.out.cell 2 0 rfl rfl
  have kw1 := S_7.out.cell 2 1 rfl rfl
  have kw2 := S_7.out.cell 2 2 rfl rfl
  have kw3 := S_7.out.cell 2 3 rfl rfl
  have kw4 := S_7.out.cell 2 4 rfl rfl
  have kw5 := S_7.out.cell 2 5 rfl rfl
  have kw6 := S_7.out.cell 2 6 rfl rfl
  have kw7 := S_7.out.cell 2 7 rfl rfl
  have kw8 := S_7.out.cell 2 8 rfl rfl
  have kw9 := S_7.out.cell 2 9 rfl rfl
  have kw10 := S_7.out.cell 2 10 rfl rfl
  go_wp2_with fail
  refine (eqLink_f RA RB RP RQ RR (.slice A0g n0g c0g) (.slice A1g n1g c1g) (.slice A2g n2g c2g) (.slice A3g n3g c3g) (.slice A4g n4g c4g) (.slice A5g n5g c5g) (.slice A0w n0w c0w) (.slice A1w n1w c1w) (.slice A2w n2w c2w) (.slice A3w n3w c3w) (.slice A4w n4w c4w) (.slice A5w n5w c5w) _ (S_7.out.lk 0 rfl).i (S_7.out.lk 2 rfl).i).mono ?_
  rintro e w6_ ⟨rfl, hb⟩
  have S_8 := Lib.hid (S_7.out.call hb)
  clear S_7
  clear hb
  clear kg0 kg1 kg2 kg3 kg4 kg5 kg6 kg7 kg8 kg9 kg10 kw0 kw1 kw2 kw3 kw4 kw5 kw6 kw7 kw8 kw9 kw10
  go_wp2_with fail
  refine (toLinkS_any a0 len0 cap0 z0 _ (HA.out.below S_8.out.below) HN.out).mono ?_
  rintro e w7_ ⟨bu, yu, rfl, hyl, hlk, hst⟩
  rw [HZ.out] at hyl ⊢
  have HYu := Lib.hid hyl
  have HKu := Lib.hid hlk
  have S_9 := Lib.hid (S_8.out.comp hst)
  clear S_8
  clear hyl hlk hst
  go_wp2_with fail
  refine (eqLinkS_same (some ⟨bx, 0, none⟩) (some ⟨bu, 0, none⟩) len0 len0 len0 yx yu _ (HYx.out ▸ S_9.out.lrow 2 2 rfl rfl) (HYu.out ▸ S_9.out.lrow 0 0 rfl rfl) (like_both HYx.out HYu.out HZ.out HKx.out HKu.out) hl1).mono ?_
  rintro e w8_ ⟨rfl, hb⟩
  have S_10 := Lib.hid (S_9.out.call hb)
  clear S_9
  clear hb
  have S_11 := Lib.hid (S_10.out.dropBox 0)
  clear S_10
  have S_12 := Lib.hid (S_11.out.drop 0)
  clear S_11
  go_wp2_with fail
  have S_13 := Lib.hid (S_12.out.front 1 1 rfl rfl)
  clear S_12
  have hll : lensL yx = lensL z0 := lensL_like HYx.out HZ.out HKx.out
  refine (markLinkS_f bx len0 len0 1 1 (by rfl) yx W _ _ _ HYx.out S_13.out (by rw [hll]; have := HN.out; omega)).mono ?_
  rintro e w9_ ⟨rfl, hst⟩
  rw [hll]
  clear hll S_13
  have S_14 := Lib.hid hst
  clear hst
  obtain ⟨km, hkm⟩ : ∃ q : Nat, 1 + 5 * len0 + lensL z0 = q := ⟨_, rfl⟩
  rw [hkm]
  have hkm1 : ((km : Nat) : Int) ≥ 0 := by omega
  have hkm0 : decide ((km : Int) < 0) = false := decide_eq_false (by omega)
  clear hkm
  have S_15 := Lib.hid (S_14.out.dropBox 0)
  clear S_14
  have S_16 := Lib.hid (S_15.out.drop 0)
  clear S_15
  have kg0 := S_16.out.cell 0 0 rfl rfl
  have kg1 := S_16.out.cell 0 1 rfl rfl
  have kg2 := S_16.out.cell 0 2 rfl rfl
  have kg3 := S_16.out.cell 0 3 rfl rfl
  have kg4 := S_16.out.cell 0 4 rfl rfl
  have kg5 := S_16.out.cell 0 5 rfl rfl
  have kg6 := S_16.out.cell 0 6 rfl rfl
  have kg7 := S_16.out.cell 0 7 rfl rfl
  have kg8 := S_16.out.cell 0 8 rfl rfl
  have kg9 := S_16.out.cell 0 9 rfl rfl
  have kg10 := S_16.out.cell 0 10 rfl rfl
  have kw0 := S_16.out.cell 1 0 rfl rfl
  have kw1 := S_16.out.cell 1 1 rfl rfl
  have kw2 := S_16.out.cell 1 2 rfl rfl
  have kw3 := S_16.out.cell 1 3 rfl rfl
  have kw4 := S_16.out.cell 1 4 rfl rfl
  have kw5 := S_16.out.cell 1 5 rfl rfl
  have kw6 := S_16.out.cell 1 6 rfl rfl
  have kw7 := S_16.out.cell 1 7 rfl rfl
  have kw8 := S_16.out.cell 1 8 rfl rfl
  have kw9 := S_16.out.cell 1 9 rfl rfl
  have kw10 := S_16.out.cell 1 10 rfl rfl
  go_wp2_with fail
  refine (eqLink_f RA RB RP RQ RR (.slice A0g n0g c0g) (.slice A1g n1g c1g) (.slice A2g n2g c2g) (.slice A3g n3g c3g) (.slice A4g n4g c4g) (.slice A5g n5g c5g) (.slice A0w n0w c0w) (.slice A1w n1w c1w) (.slice A2w n2w c2w) (.slice A3w n3w c3w) (.slice A4w n4w c4w) (.slice A5w n5w c5w) _ (S_16.out.lk 0 rfl).i (S_16.out.lk 1 rfl).i).mono ?_
  rintro e w10_ ⟨rfl, hb⟩
  have S_17 := Lib.hid (S_16.out.call hb)
  clear S_16
  clear hb
  clear kg0 kg1 kg2 kg3 kg4 kg5 kg6 kg7 kg8 kg9 kg10 kw0 kw1 kw2 kw3 kw4 kw5 kw6 kw7 kw8 kw9 kw10
  have kg0 := S_17.out.cell 0 0 rfl rfl
  have kg1 := S_17.out.cell 0 1 rfl rfl
  have kg2 := S_17.out.cell 0 2 rfl rfl
  have kg3 := S_17.out.cell 0 3 rfl rfl
  have kg4 := S_17.out.cell 0 4 rfl rfl
  have kg5 := S_17.out.cell 0 5 rfl rfl
  have kg6 := S_17.out.cell 0 6 rfl rfl
  have kg7 := S_17.out.cell 0 7 rfl rfl
  have kg8 := S_17.out.cell 0 8 rfl rfl
  have kg9 := S_17.out.cell 0 9 rfl rfl
  have kg10 := S_17.out.cell 0 10 rfl rfl
  go_wp2_with fail
  obtain ⟨mm, hmm⟩ : ∃ z, lenL [((.slice A0g n0g c0g), ints RP.xs), ((.slice A1g n1g c1g), ints RP.ys), ((.slice A2g n2g c2g), ints RQ.xs), ((.slice A3g n3g c3g), ints RQ.ys), ((.slice A4g n4g c4g), ints RR.xs), ((.slice A5g n5g c5g), ints RR.ys)] = z := ⟨_, rfl⟩
  have hmb : mm ≤ 2097152 := by rw [← hmm]; simp only [lenL, ints_len]; have h9 := HLEN.out; simp only [Fr.len] at h9; omega
  have HMM := Lib.hid hmm
  clear hmm
  refine (markLink_f RA RB RP.s RQ.s RR.s (.slice A0g n0g c0g) (.slice A1g n1g c1g) (.slice A2g n2g c2g) (.slice A3g n3g c3g) (.slice A4g n4g c4g) (.slice A5g n5g c5g) (ints RP.xs) (ints RP.ys) (ints RQ.xs) (ints RQ.ys) (ints RR.xs) (ints RR.ys) _ 1 W.heap.size _ (by first | rfl | omega) (S_17.out.own 0 rfl) (by rw [show lenL _ = mm from HMM.out]; omega)).mono ?_
  rintro e w11_ ⟨rfl, ho, ht⟩
  rw [show lenL _ = mm from HMM.out]
  have S_18 := Lib.hid (S_17.out.marked 0 rfl ho ht)
  clear S_17
  clear ho ht
  clear kg0 kg1 kg2 kg3 kg4 kg5 kg6 kg7 kg8 kg9 kg10
  have kg0 := S_18.out.cell 0 0 rfl rfl
  have kg1 := S_18.out.cell 0 1 rfl rfl
  have kg2 := S_18.out.cell 0 2 rfl rfl
  have kg3 := S_18.out.cell 0 3 rfl rfl
  have kg4 := S_18.out.cell 0 4 rfl rfl
  have kg5 := S_18.out.cell 0 5 rfl rfl
  have kg6 := S_18.out.cell 0 6 rfl rfl
  have kg7 := S_18.out.cell 0 7 rfl rfl
  have kg8 := S_18.out.cell 0 8 rfl rfl
  have kg9 := S_18.out.cell 0 9 rfl rfl
  have kg10 := S_18.out.cell 0 10 rfl rfl
  go_wp2_with fail
  refine (heldLink_f RA RB RP.s RQ.s RR.s (.slice A0g n0g c0g) (.slice A1g n1g c1g) (.slice A2g n2g c2g) (.slice A3g n3g c3g) (.slice A4g n4g c4g) (.slice A5g n5g c5g) (ints RP.xs) (ints RP.ys) (ints RQ.xs) (ints RQ.ys) (ints RR.xs) (ints RR.ys) _ 1 W.heap.size _ (by first | rfl | omega) (S_18.out.own 0 rfl) (by rw [show lenL _ = mm from HMM.out]; omega)).mono ?_
  rintro e w12_ ⟨rfl, hb⟩
  have S_19 := Lib.hid (S_18.out.call hb)
  clear S_18
  clear hb
  rw [show lenL _ = mm from HMM.out]
  clear kg0 kg1 kg2 kg3 kg4 kg5 kg6 kg7 kg8 kg9 kg10
  go_wp2_with fail
  refine (toLinkS_any a0 len0 cap0 z0 _ (HA.out.below S_19.out.below) HN.out).mono ?_
  rintro e w13_ ⟨bz, yz, rfl, hyl, hlk, hst⟩
  rw [HZ.out] at hyl ⊢
  have HYz := Lib.hid hyl
  have HKz := Lib.hid hlk
  have S_20 := Lib.hid (S_19.out.comp hst)
  clear S_19
  clear hyl hlk hst
  go_wp2_with fail
  have HLRz := Lib.hid (show lkAns (okSet yz) (dts yz) a1 a2 = R from (lkAns_like HYz.out HZ.out HKz.out).trans HDR.out)
  refine (((linkOf_i (some ⟨bz, 0, none⟩) len0 len0 yz a1 a2 _ (HYz.out ▸ S_20.out.larg 0 0 rfl rfl) hl1).mono (fun e w h => HOA.out _ e w (HLRz.out ▸ h)))).mono ?_
  rintro e w14_ ⟨v0h, v1h, v2h, v3h, v4h, v5h, rfl, ho, hb⟩
  obtain ⟨A0h, n0h, c0h, rfl⟩ := (ho.at_ 0 rfl).shape3
  obtain ⟨A1h, n1h, c1h, rfl⟩ := (ho.at_ 1 rfl).shape3
  obtain ⟨A2h, n2h, c2h, rfl⟩ := (ho.at_ 2 rfl).shape3
  obtain ⟨A3h, n3h, c3h, rfl⟩ := (ho.at_ 3 rfl).shape3
  obtain ⟨A4h, n4h, c4h, rfl⟩ := (ho.at_ 4 rfl).shape3
  obtain ⟨A5h, n5h, c5h, rfl⟩ := (ho.at_ 5 rfl).shape3
  have S_21 := Lib.hid (S_20.out.rows ho hb)
  clear S_20
  clear ho hb
  have S_22 := Lib.hid (S_21.out.alloc [.int .i64 RA, .int .i64 RB, .bool RP.s, (.slice A0h n0h c0h), (.slice A1h n1h c1h), .bool RQ.s, (.slice A2h n2h c2h), (.slice A3h n3h c3h), .bool RR.s, (.slice A4h n4h c4h), (.slice A5h n5h c5h)] 42)
  clear S_21
  have kh0 := S_22.out.cell 0 0 rfl rfl
  have kh1 := S_22.out.cell 0 1 rfl rfl
  have kh2 := S_22.out.cell 0 2 rfl rfl
  have kh3 := S_22.out.cell 0 3 rfl rfl
  have kh4 := S_22.out.cell 0 4 rfl rfl
  have kh5 := S_22.out.cell 0 5 rfl rfl
  have kh6 := S_22.out.cell 0 6 rfl rfl
  have kh7 := S_22.out.cell 0 7 rfl rfl
  have kh8 := S_22.out.cell 0 8 rfl rfl
  have kh9 := S_22.out.cell 0 9 rfl rfl
  have kh10 := S_22.out.cell 0 10 rfl rfl
  have kw0 := S_22.out.cell 3 0 rfl rfl
  have kw1 := S_22.out.cell 3 1 rfl rfl
  have kw2 := S_22.out.cell 3 2 rfl rfl
  have kw3 := S_22.out.cell 3 3 rfl rfl
  have kw4 := S_22.out.cell 3 4 rfl rfl
  have kw5 := S_22.out.cell 3 5 rfl rfl
  have kw6 := S_22.out.cell 3 6 rfl rfl
  have kw7 := S_22.out.cell 3 7 rfl rfl
  have kw8 := S_22.out.cell 3 8 rfl rfl
  have kw9 := S_22.out.cell 3 9 rfl rfl
  have kw10 := S_22.out.cell 3 10 rfl rfl
  go_wp2_with fail
  refine (eqLink_f RA RB RP RQ RR (.slice A0h n0h c0h) (.slice A1h n1h c1h) (.slice A2h n2h c2h) (.slice A3h n3h c3h) (.slice A4h n4h c4h) (.slice A5h n5h c5h) (.slice A0w n0w c0w) (.slice A1w n1w c1w) (.slice A2w n2w c2w) (.slice A3w n3w c3w) (.slice A4w n4w c4w) (.slice A5w n5w c5w) _ (S_22.out.lk 0 rfl).i (S_22.out.lk 3 rfl).i).mono ?_
  rintro e w15_ ⟨rfl, hb⟩
  have S_23 := Lib.hid (S_22.out.call hb)
  clear S_22
  clear hb
  clear kh0 kh1 kh2 kh3 kh4 kh5 kh6 kh7 kh8 kh9 kh10 kw0 kw1 kw2 kw3 kw4 kw5 kw6 kw7 kw8 kw9 kw10
  have kg0 := S_23.out.cell 2 0 rfl rfl
  have kg1 := S_23.out.cell 2 1 rfl rfl
  have kg2 := S_23.out.cell 2 2 rfl rfl
  have kg3 := S_23.out.cell 2 3 rfl rfl
  have kg4 := S_23.out.cell 2 4 rfl rfl
  have kg5 := S_23.out.cell 2 5 rfl rfl
  have kg6 := S_23.out.cell 2 6 rfl rfl
  have kg7 := S_23.out.cell 2 7 rfl rfl
  have kg8 := S_23.out.cell 2 8 rfl rfl
  have kg9 := S_23.out.cell 2 9 rfl rfl
  have kg10 := S_23.out.cell 2 10 rfl rfl
  go_wp2_with fail
  refine (heldLink_f RA RB RP.s RQ.s RR.s (.slice A0g n0g c0g) (.slice A1g n1g c1g) (.slice A2g n2g c2g) (.slice A3g n3g c3g) (.slice A4g n4g c4g) (.slice A5g n5g c5g) (ints RP.xs) (ints RP.ys) (ints RQ.xs) (ints RQ.ys) (ints RR.xs) (ints RR.ys) _ 1 W.heap.size _ (by first | rfl | omega) (S_23.out.own 2 rfl) (by rw [show lenL _ = mm from HMM.out]; omega)).mono ?_
  rintro e w16_ ⟨rfl, hb⟩
  have S_24 := Lib.hid (S_23.out.call hb)
  clear S_23
  clear hb
  rw [show lenL _ = mm from HMM.out]
  clear kg0 kg1 kg2 kg3 kg4 kg5 kg6 kg7 kg8 kg9 kg10
  go_wp2
  go_ret
  exact ⟨rfl, S_24.out.below⟩

set_option maxRecDepth 100000 in
theorem lifted (os : Os) (started : os.Started) (H : Type) (enc : TypeId × Value → H) :
    ReturnsInHanded {} Try.checked os 13 .any (Rows.fnExactLinkOfSpec.pre6 enc Try.prog Try.f13 Rows.fnExactLinkOfRow.domain false) (Rows.fnExactLinkOfSpec.post enc Try.prog Try.f13 false true false false) := by
  refine returnsInHanded_of_change (C := Try.checked) own started (by kernel_rfl) Try.func13
    (ChangeSpec.witness6 (enc := enc) (C := Try.checked) false ⟨#[], #[.slice none 0 0, .int .i64 0, .int .i64 0], []⟩ 8 (by kernel_rfl) (by kernel_rfl) (by kernel_rfl) (by kernel_rfl)) ?_
  intro W base args ds gs before hval0 hW hcnd _
  have hval : ∀ (j : Nat) t v, Try.f13.params[j]? = some t → args[j]? = some v → Value.okWide Try.prog W .any base t v := hval0
  have hW' := hW
  obtain ⟨p, q, hA0, hV, rfl, hfz, hnd⟩ := hW
  have hA : DataW.TrodAll enc Try.prog W 0 (fun _ => true) true Try.f13.params.toList args.toList ds p := hA0
  rw [Try.params13] at hA hval
  obtain ⟨v0, vs0, d0, ds0, p0, q0, hargs, rfl, rfl, h0, r0⟩ := trodAll_cons hA
  obtain ⟨v1, vs1, d1, ds1, p1, q1, rfl, rfl, rfl, h1, r1⟩ := trodAll_cons r0
  obtain ⟨v2, vs2, d2, ds2, p2, q2, rfl, rfl, rfl, h2, r2⟩ := trodAll_cons r1
  obtain ⟨rfl, rfl, rfl⟩ := trodAll_nil r2
  obtain rfl : args = #[v0, v1, v2] := by cases args; simp_all
  obtain ⟨rfl, rfl⟩ := trodVars_none hV
  obtain ⟨a0, len0, cap0, rfl⟩ := okWide_slice Try.underlying46 (hval 0 46 v0 rfl rfl)
  have k0 := h0
  have lt0 : ∀ x ∈ p0, x.block < W.heap.size := by obtain ⟨m, hm⟩ := k0; exact DataW.trod_lt m _ _ _ hm
  obtain ⟨z0, w0⟩ := isLinks_of linkT Try.underlying46 h0
  obtain ⟨a1, rfl, rfl, rfl, w1⟩ := open_int Try.underlying3 (hval 1 3 v1 rfl rfl) h1
  obtain ⟨a2, rfl, rfl, rfl, w2⟩ := open_int Try.underlying3 (hval 2 3 v2 rfl rfl) h2
  clear hA0 hval0
  refine (walk W a0 len0 cap0 z0 w0 a1 w1 a2 w2).mono fun e W' ⟨he, bel⟩ => ?_
  subst he
  exact ⟨_, rfl, _, _, _, [], _, [], hW', trodAll_mk1 (shut_bool Try.underlying4 _), (trodAll_cons_mk (Below.trod laidOut (by kernel_rfl) (of_decide_eq_true (by kernel_rfl)) k0 bel lt0) (trodAll_cons_mk (shut_int Try.underlying3 w1) (trodAll_cons_mk (shut_int Try.underlying3 w2) trodAll_mk0))), rfl, bel.frame _, fun h => by cases h⟩

theorem over : Rows.fnExactLinkOfRow.holds Try.pinned (OpenSpec.ofChange Rows.fnExactLinkOfSpec) :=
  OpenClaim.holds_of_wide 13 Try.f13 rfl rfl rfl rfl rfl rfl rfl ⟨rfl, rfl, rfl, rfl, rfl⟩ rfl rfl rfl rfl rfl (by kernel_rfl) Try.func13 (by kernel_rfl)
    (of_decide_eq_true (by kernel_rfl)) (by unfold Func.isWrapper; first | (rw [if_pos (by decide +kernel)]; kernel_rfl) | (rw [if_neg (by decide +kernel)]; exact ⟨rfl, rfl⟩))
    (fun os started H enc _ => lifted os started H enc)

theorem proved : Rows.FnExactLinkOfSaid := over
#print axioms proved
end Go.Proofs.Ytbbjckihikhdhaa.lawLinkOf
