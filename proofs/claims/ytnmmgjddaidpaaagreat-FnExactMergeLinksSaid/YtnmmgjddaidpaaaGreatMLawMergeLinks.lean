/- Proved: at every two links, impl.MergeLinks answers as its model spec.MergeLinks in every result, writes into no argument, its answer owns its memory, the call returns true and changes no memory that was there. Conditions: none. -/
import Derived.Test.YtnmmgjddaidpaaaGreatRows
import Derived.Test.YtnmmgjddaidpaaaGreatMB1
import Derived.Test.YtnmmgjddaidpaaaGreatMLkBase
import Derived.Test.YtnmmgjddaidpaaaGreatMMarkMath
import Derived.Test.YtnmmgjddaidpaaaGreatMHand
import Derived.Test.YtnmmgjddaidpaaaGreatMLk4
import Derived.Test.YtnmmgjddaidpaaaGreatMLk5
import Derived.Test.YtnmmgjddaidpaaaGreatMLk6
import Derived.WalkKit
import Derived.ProofKit
import Derived.OpenShut
import Derived.ShutString
import Derived.ChangeOld
import Derived.Below
namespace Go.Proofs.YtnmmgjddaidpaaaGreat.lawMergeLinks
open Go.ChangeShapes Go.WideShapes Go.ChangeAt Go.RowKit
open Go.ChangeMaps (open_string shut_string)
set_option linter.unusedVariables false
theorem own : ownKnob Tryz.prog.godebug = none := by kernel_rfl
theorem laidOut : laidOutB Tryz.prog = true := by kernel_rfl
open Nt Fr
set_option maxRecDepth 100000 in
set_option maxHeartbeats 80000000 in
theorem walk (W : World) (A0 B0 : Int) (P0 Q0 R0 : Fr) (p00 p01 q00 q01 r00 r01 : Value) (w0 : LkI W P0 Q0 R0 p00 p01 q00 q01 r00 r01) (A1 B1 : Int) (P1 Q1 R1 : Fr) (p10 p11 q10 q11 r10 r11 : Value) (w1 : LkI W P1 Q1 R1 p10 p11 q10 q11 r10 r11) :
   Calls Tryz.prog 3 #[.agg #[.int .i64 A0, .int .i64 B0, .bool P0.s, p00, p01, .bool Q0.s, q00, q01, .bool R0.s, r00, r01], .agg #[.int .i64 A1, .int .i64 B1, .bool P1.s, p10, p11, .bool Q1.s, q10, q11, .bool R1.s, r10, r11]] W fun e w' => e = .returned (.bool true) ∧ Below W.heap.size W w' := by
 obtain ⟨ok, hok⟩ : ∃ z, mgOk A0 B0 A1 B1 P0 Q0 R0 P1 Q1 R1 = z := ⟨_, rfl⟩
 obtain ⟨RA, hRA⟩ : ∃ z, pi ok A0 = z := ⟨_, rfl⟩
 obtain ⟨RB, hRB⟩ : ∃ z, pi ok B0 = z := ⟨_, rfl⟩
 obtain ⟨RP, hRP⟩ : ∃ z, pk ok (P0.add P1) = z := ⟨_, rfl⟩
 obtain ⟨RQ, hRQ⟩ : ∃ z, pk ok (mgX P0 Q0 P1 Q1) = z := ⟨_, rfl⟩
 obtain ⟨RR, hRR⟩ : ∃ z, pk ok (mgX P0 R0 P1 R1) = z := ⟨_, rfl⟩
 obtain ⟨RE, hRE⟩ : ∃ z, pk ok (mgE P0 Q0 R0 P1 Q1 R1) = z := ⟨_, rfl⟩
 have hlen : RP.len + RQ.len + RR.len + RE.len ≤ 1048576 := by
   have g1 : RP.Good := by rw [← hRP]; exact pk_good (good_add _ _)
   have g2 : RQ.Good := by rw [← hRQ]; exact pk_good (good_div _ _)
   have g3 : RR.Good := by rw [← hRR]; exact pk_good (good_div _ _)
   have g4 : RE.Good := by rw [← hRE]; exact pk_good (good_mul _ _)
   have := g1.len
   have := g2.len
   have := g3.len
   have := g4.len
   omega
 have HS := Lib.hid (show ∀ (p0 p1 q0 q1 r0 r1 v0 v1 u0 u1 t0 t1 : Value) (u : World), LkA u P0 Q0 R0 p0 p1 q0 q1 r0 r1 → LkA u P1 Q1 R1 v0 v1 u0 u1 t0 t1 → Calls Tryz.prog 6 #[.agg #[.int .i64 A0, .int .i64 B0, .bool P0.s, p0, p1, .bool Q0.s, q0, q1, .bool R0.s, r0, r1], .agg #[.int .i64 A1, .int .i64 B1, .bool P1.s, v0, v1, .bool Q1.s, u0, u1, .bool R1.s, t0, t1]] u (OwnM RA RB RP RQ RR RE ok u) from fun p0 p1 q0 q1 r0 r1 v0 v1 u0 u1 t0 t1 u h1 h2 => by
   have h := mergeLinks_s A0 B0 P0 Q0 R0 p0 p1 q0 q1 r0 r1 A1 B1 P1 Q1 R1 v0 v1 u0 u1 t0 t1 u h1 h2
   unfold OwnMG at h
   rw [hok, hRA, hRB, hRP, hRQ, hRR, hRE] at h
   exact h)
 have HI := Lib.hid (show ∀ (p0 p1 q0 q1 r0 r1 v0 v1 u0 u1 t0 t1 : Value) (u : World), LkA u P0 Q0 R0 p0 p1 q0 q1 r0 r1 → LkA u P1 Q1 R1 v0 v1 u0 u1 t0 t1 → Calls Tryz.prog 8 #[.agg #[.int .i64 A0, .int .i64 B0, .bool P0.s, p0, p1, .bool Q0.s, q0, q1, .bool R0.s, r0, r1], .agg #[.int .i64 A1, .int .i64 B1, .bool P1.s, v0, v1, .bool Q1.s, u0, u1, .bool R1.s, t0, t1]] u (OwnM RA RB RP RQ RR RE ok u) from fun p0 p1 q0 q1 r0 r1 v0 v1 u0 u1 t0 t1 u h1 h2 => by
   have h := mergeLinks_i A0 B0 P0 Q0 R0 p0 p1 q0 q1 r0 r1 A1 B1 P1 Q1 R1 v0 v1 u0 u1 t0 t1 u h1 h2
   unfold OwnMG at h
   rw [hok, hRA, hRB, hRP, hRQ, hRR, hRE] at h
   exact h)
 clear hok hRA hRB hRP hRQ hRR hRE
 have HA0 := Lib.hid w0
 clear w0
 have HA1 := Lib.hid w1
 clear w1
 have S_1 := Lib.hid (show St W ((W.alloc (.cells #[.int .i64 A0,.int .i64 B0,.bool P0.s,p00,p01,.bool Q0.s,q00,q01,.bool R0.s,r00,r01] 28)).alloc (.cells #[.int .i64 A1,.int .i64 B1,.bool P1.s,p10,p11,.bool Q1.s,q10,q11,.bool R1.s,r10,r11] 28)) [(W.heap.size + 1,[.int .i64 A1,.int .i64 B1,.bool P1.s,p10,p11,.bool Q1.s,q10,q11,.bool R1.s,r10,r11]),(W.heap.size,[.int .i64 A0,.int .i64 B0,.bool P0.s,p00,p01,.bool Q0.s,q00,q01,.bool R0.s,r00,r01])] [] from (((St.start W).alloc_at (b := W.heap.size) [.int .i64 A0,.int .i64 B0,.bool P0.s,p00,p01,.bool Q0.s,q00,q01,.bool R0.s,r00,r01] 28 (by first | rfl | simp)).alloc_at (b := W.heap.size + 1) [.int .i64 A1,.int .i64 B1,.bool P1.s,p10,p11,.bool Q1.s,q10,q11,.bool R1.s,r10,r11] 28 (by first | rfl | simp)))
 have hne_arg1_arg0 : W.heap.size + 1 ≠ W.heap.size := by omega
 have hne_arg0_arg1 : W.heap.size ≠ W.heap.size + 1 := by omega
 go_enter Tryz.func3, Tryz.ntmps3
 go_wp2_with fail
 refine (szLink_f A0 B0 P0 Q0 R0 p00 p01 q00 q01 r00 r01 _ 1048576 (by omega) (by omega) (S_1.out.lkI HA0.out)).mono ?_
 rintro e w1 ⟨rfl, hb⟩
 have S_2 := Lib.hid (S_1.out.call hb)
 clear S_1
 clear hb
 by_cases hs0 : (1048576 : Int) < ((P0.len + Q0.len + R0.len : Nat) : Int)
 · rw [szOf_neg hs0]
   go_wp2
   go_ret
   exact ⟨rfl, S_2.out.below⟩
 rw [szOf_pos hs0]
 obtain ⟨left0, hq0⟩ : ∃ q : Int, 1048576 - ((P0.len + Q0.len + R0.len : Nat) : Int) = q := ⟨_, rfl⟩
 have hl0 : 0 ≤ left0 ∧ left0 ≤ 1048576 ∧ P0.len + Q0.len + R0.len ≤ 1048576 := by omega
 rw [hq0]
 have HL0 := Lib.hid hl0.2.2
 clear hq0 hs0
 have hk_arg1_0_2 := S_2.out.cell 0 0 rfl rfl
 have hk_arg1_1_2 := S_2.out.cell 0 1 rfl rfl
 have hk_arg1_2_2 := S_2.out.cell 0 2 rfl rfl
 have hk_arg1_3_2 := S_2.out.cell 0 3 rfl rfl
 have hk_arg1_4_2 := S_2.out.cell 0 4 rfl rfl
 have hk_arg1_5_2 := S_2.out.cell 0 5 rfl rfl
 have hk_arg1_6_2 := S_2.out.cell 0 6 rfl rfl
 have hk_arg1_7_2 := S_2.out.cell 0 7 rfl rfl
 have hk_arg1_8_2 := S_2.out.cell 0 8 rfl rfl
 have hk_arg1_9_2 := S_2.out.cell 0 9 rfl rfl
 have hk_arg1_10_2 := S_2.out.cell 0 10 rfl rfl
 go_wp2_with fail
 refine (szLink_f A1 B1 P1 Q1 R1 p10 p11 q10 q11 r10 r11 _ left0 (by omega) (by omega) (S_2.out.lkI HA1.out)).mono ?_
 rintro e w2 ⟨rfl, hb⟩
 have S_3 := Lib.hid (S_2.out.call hb)
 clear S_2
 clear hb
 clear hk_arg1_0_2 hk_arg1_1_2 hk_arg1_2_2 hk_arg1_3_2 hk_arg1_4_2 hk_arg1_5_2 hk_arg1_6_2 hk_arg1_7_2 hk_arg1_8_2 hk_arg1_9_2 hk_arg1_10_2
 by_cases hs1 : (left0 : Int) < ((P1.len + Q1.len + R1.len : Nat) : Int)
 · rw [szOf_neg hs1]
   go_wp2
   go_ret
   exact ⟨rfl, S_3.out.below⟩
 rw [szOf_pos hs1]
 obtain ⟨left1, hq1⟩ : ∃ q : Int, left0 - ((P1.len + Q1.len + R1.len : Nat) : Int) = q := ⟨_, rfl⟩
 have hl1 : 0 ≤ left1 ∧ left1 ≤ 1048576 ∧ P1.len + Q1.len + R1.len ≤ 1048576 := by omega
 rw [hq1]
 have HL1 := Lib.hid hl1.2.2
 clear hq1 hs1
 have hk_arg0_0_3 := S_3.out.cell 1 0 rfl rfl
 have hk_arg0_1_3 := S_3.out.cell 1 1 rfl rfl
 have hk_arg0_2_3 := S_3.out.cell 1 2 rfl rfl
 have hk_arg0_3_3 := S_3.out.cell 1 3 rfl rfl
 have hk_arg0_4_3 := S_3.out.cell 1 4 rfl rfl
 have hk_arg0_5_3 := S_3.out.cell 1 5 rfl rfl
 have hk_arg0_6_3 := S_3.out.cell 1 6 rfl rfl
 have hk_arg0_7_3 := S_3.out.cell 1 7 rfl rfl
 have hk_arg0_8_3 := S_3.out.cell 1 8 rfl rfl
 have hk_arg0_9_3 := S_3.out.cell 1 9 rfl rfl
 have hk_arg0_10_3 := S_3.out.cell 1 10 rfl rfl
 have hk_arg1_0_3 := S_3.out.cell 0 0 rfl rfl
 have hk_arg1_1_3 := S_3.out.cell 0 1 rfl rfl
 have hk_arg1_2_3 := S_3.out.cell 0 2 rfl rfl
 have hk_arg1_3_3 := S_3.out.cell 0 3 rfl rfl
 have hk_arg1_4_3 := S_3.out.cell 0 4 rfl rfl
 have hk_arg1_5_3 := S_3.out.cell 0 5 rfl rfl
 have hk_arg1_6_3 := S_3.out.cell 0 6 rfl rfl
 have hk_arg1_7_3 := S_3.out.cell 0 7 rfl rfl
 have hk_arg1_8_3 := S_3.out.cell 0 8 rfl rfl
 have hk_arg1_9_3 := S_3.out.cell 0 9 rfl rfl
 have hk_arg1_10_3 := S_3.out.cell 0 10 rfl rfl
 go_upto_region 8 with fail
 clear hk_arg0_0_3 hk_arg0_1_3 hk_arg0_2_3 hk_arg0_3_3 hk_arg0_4_3 hk_arg0_5_3 hk_arg0_6_3 hk_arg0_7_3 hk_arg0_8_3 hk_arg0_9_3 hk_arg0_10_3 hk_arg1_0_3 hk_arg1_1_3 hk_arg1_2_3 hk_arg1_3_3 hk_arg1_4_3 hk_arg1_5_3 hk_arg1_6_3 hk_arg1_7_3 hk_arg1_8_3 hk_arg1_9_3 hk_arg1_10_3
 go_cut [6,7,8] (fun ptr ptr2 vb wx => ∃ blk blk2 A0w n0w c0w A1w n1w c1w A2w n2w c2w A3w n3w c3w A4w n4w c4w A5w n5w c5w A6w n6w c6w A7w n7w c7w,ptr = .pointer (some ⟨blk,0,none⟩) ∧ ptr2 = .pointer (some ⟨blk2,0,none⟩) ∧ vb = .bool ok ∧ St W wx [(W.heap.size + 1,[.int .i64 A1,.int .i64 B1,.bool P1.s,p10,p11,.bool Q1.s,q10,q11,.bool R1.s,r10,r11]),(W.heap.size,[.int .i64 A0,.int .i64 B0,.bool P0.s,p00,p01,.bool Q0.s,q00,q01,.bool R0.s,r00,r01]),(blk,[.int .i64 RA,.int .i64 RB,.bool RP.s,(.slice A0w n0w c0w),(.slice A1w n1w c1w),.bool RQ.s,(.slice A2w n2w c2w),(.slice A3w n3w c3w),.bool RR.s,(.slice A4w n4w c4w),(.slice A5w n5w c5w)]),(blk2,[.bool RE.s,(.slice A6w n6w c6w),(.slice A7w n7w c7w)])] [rowsK RP RQ RR (.slice A0w n0w c0w) (.slice A1w n1w c1w) (.slice A2w n2w c2w) (.slice A3w n3w c3w) (.slice A4w n4w c4w) (.slice A5w n5w c5w),[((.slice A6w n6w c6w),ints RE.xs),((.slice A7w n7w c7w),ints RE.ys)]])
 case first =>
   have mkS_4 : ∀ (w' : World) (bs' : List (Nat × List Value)) (cs' : List Chunk),St W w' ((W.heap.size + 1,[.int .i64 A1,.int .i64 B1,.bool P1.s,p10,p11,.bool Q1.s,q10,q11,.bool R1.s,r10,r11]) :: (W.heap.size,[.int .i64 A0,.int .i64 B0,.bool P0.s,p00,p01,.bool Q0.s,q00,q01,.bool R0.s,r00,r01]) :: bs') cs' → w'.cell? ⟨W.heap.size + 1,0,none⟩ = some (.int .i64 A1) ∧ w'.cell? ⟨W.heap.size + 1,1,none⟩ = some (.int .i64 B1) ∧ w'.cell? ⟨W.heap.size + 1,2,none⟩ = some (.bool P1.s) ∧ w'.cell? ⟨W.heap.size + 1,3,none⟩ = some (p10) ∧ w'.cell? ⟨W.heap.size + 1,4,none⟩ = some (p11) ∧ w'.cell? ⟨W.heap.size + 1,5,none⟩ = some (.bool Q1.s) ∧ w'.cell? ⟨W.heap.size + 1,6,none⟩ = some (q10) ∧ w'.cell? ⟨W.heap.size + 1,7,none⟩ = some (q11) ∧ w'.cell? ⟨W.heap.size + 1,8,none⟩ = some (.bool R1.s) ∧ w'.cell? ⟨W.heap.size + 1,9,none⟩ = some (r10) ∧ w'.cell? ⟨W.heap.size + 1,10,none⟩ = some (r11) ∧ w'.cell? ⟨W.heap.size,0,none⟩ = some (.int .i64 A0) ∧ w'.cell? ⟨W.heap.size,1,none⟩ = some (.int .i64 B0) ∧ w'.cell? ⟨W.heap.size,2,none⟩ = some (.bool P0.s) ∧ w'.cell? ⟨W.heap.size,3,none⟩ = some (p00) ∧ w'.cell? ⟨W.heap.size,4,none⟩ = some (p01) ∧ w'.cell? ⟨W.heap.size,5,none⟩ = some (.bool Q0.s) ∧ w'.cell? ⟨W.heap.size,6,none⟩ = some (q00) ∧ w'.cell? ⟨W.heap.size,7,none⟩ = some (q01) ∧ w'.cell? ⟨W.heap.size,8,none⟩ = some (.bool R0.s) ∧ w'.cell? ⟨W.heap.size,9,none⟩ = some (r00) ∧ w'.cell? ⟨W.heap.size,10,none⟩ = some (r01) := fun w' bs' cs' h => ⟨h.cell 0 0 rfl rfl,h.cell 0 1 rfl rfl,h.cell 0 2 rfl rfl,h.cell 0 3 rfl rfl,h.cell 0 4 rfl rfl,h.cell 0 5 rfl rfl,h.cell 0 6 rfl rfl,h.cell 0 7 rfl rfl,h.cell 0 8 rfl rfl,h.cell 0 9 rfl rfl,h.cell 0 10 rfl rfl,h.cell 1 0 rfl rfl,h.cell 1 1 rfl rfl,h.cell 1 2 rfl rfl,h.cell 1 3 rfl rfl,h.cell 1 4 rfl rfl,h.cell 1 5 rfl rfl,h.cell 1 6 rfl rfl,h.cell 1 7 rfl rfl,h.cell 1 8 rfl rfl,h.cell 1 9 rfl rfl,h.cell 1 10 rfl rfl⟩
   refine (fun {G goal : Prop} (h1 : (True → G) → goal) (h2 : G) => h1 (fun _ => h2)) (G := ?G4) (fun FIN => ?_) ?_
   case refine_1 =>
     as_aux_lemma =>
     have SS := Lib.hid S_3.out.drew
     refine wp_region_noPanic ?_
     refine wp_region_held_drew (S := (fun w' => w'.cell? ⟨W.heap.size + 1, 0, none⟩ = some (.int .i64 A1) ∧ w'.cell? ⟨W.heap.size + 1, 1, none⟩ = some (.int .i64 B1) ∧ w'.cell? ⟨W.heap.size + 1, 2, none⟩ = some (.bool P1.s) ∧ w'.cell? ⟨W.heap.size + 1, 3, none⟩ = some (p10) ∧ w'.cell? ⟨W.heap.size + 1, 4, none⟩ = some (p11) ∧ w'.cell? ⟨W.heap.size + 1, 5, none⟩ = some (.bool Q1.s) ∧ w'.cell? ⟨W.heap.size + 1, 6, none⟩ = some (q10) ∧ w'.cell? ⟨W.heap.size + 1, 7, none⟩ = some (q11) ∧ w'.cell? ⟨W.heap.size + 1, 8, none⟩ = some (.bool R1.s) ∧ w'.cell? ⟨W.heap.size + 1, 9, none⟩ = some (r10) ∧ w'.cell? ⟨W.heap.size + 1, 10, none⟩ = some (r11) ∧ w'.cell? ⟨W.heap.size, 0, none⟩ = some (.int .i64 A0) ∧ w'.cell? ⟨W.heap.size, 1, none⟩ = some (.int .i64 B0) ∧ w'.cell? ⟨W.heap.size, 2, none⟩ = some (.bool P0.s) ∧ w'.cell? ⟨W.heap.size, 3, none⟩ = some (p00) ∧ w'.cell? ⟨W.heap.size, 4, none⟩ = some (p01) ∧ w'.cell? ⟨W.heap.size, 5, none⟩ = some (.bool Q0.s) ∧ w'.cell? ⟨W.heap.size, 6, none⟩ = some (q00) ∧ w'.cell? ⟨W.heap.size, 7, none⟩ = some (q01) ∧ w'.cell? ⟨W.heap.size, 8, none⟩ = some (.bool R0.s) ∧ w'.cell? ⟨W.heap.size, 9, none⟩ = some (r00) ∧ w'.cell? ⟨W.heap.size, 10, none⟩ = some (r01))) (by kernel_rfl) ?_ (fun hH => ?_)
     · exact mkS_4 _ _ _ SS.out
     generalize hwd : World.drew _ = wd at SS hH ⊢
     clear hwd
     refine tkH 0 ?_ ⟨some 31,.load 28 (.tmp 2),28,"exact.go:4535",#[],none⟩ ?_ ?_
     rotate_left
     · intro w9 hS; (try dsimp only at hS); go_simp; try with_reducible rfl
     try simp only [pm, s0, sS]
     refine tkH 2 ?_ ⟨some 33,.load 28 (.tmp 3),28,"exact.go:4535",#[],none⟩ ?_ ?_
     rotate_left
     · intro w9 hS; (try dsimp only at hS); go_simp; try with_reducible rfl
     try simp only [pm, s0, sS]
     refine wpAnyH_ready (rs := [1, 9, 10]) (by kernel_rfl) (by simp) ?_
     refine AllReadyH.cons (o := ⟨some 32,.call { callee := .value (.func 7),args := #[.tmp 31],argTypes := #[28] },34,"exact.go:4535",#[⟨0,.data⟩],none⟩) rfl ?_ ?_
     intro K hK
     go_simp
     go_at_call_of 7 (Value.agg #[Value.int .i64 A0,Value.int .i64 B0,Value.bool P0.s,p00,p01,Value.bool Q0.s,q00,q01,Value.bool R0.s,r00,r01])
     refine (toLink_f A0 B0 P0 Q0 R0 p00 p01 q00 q01 r00 r01 _ (SS.out.lkI HA0.out) HL0.out).mono ?_
     rintro e wc_0 ⟨v0_ta, v1_ta, v2_ta, v3_ta, v4_ta, v5_ta, rfl, ho, hb⟩
     obtain ⟨A0ta, n0ta, c0ta, rfl⟩ := (ho.at_ 0 rfl).shape3
     obtain ⟨A1ta, n1ta, c1ta, rfl⟩ := (ho.at_ 1 rfl).shape3
     obtain ⟨A2ta, n2ta, c2ta, rfl⟩ := (ho.at_ 2 rfl).shape3
     obtain ⟨A3ta, n3ta, c3ta, rfl⟩ := (ho.at_ 3 rfl).shape3
     obtain ⟨A4ta, n4ta, c4ta, rfl⟩ := (ho.at_ 4 rfl).shape3
     obtain ⟨A5ta, n5ta, c5ta, rfl⟩ := (ho.at_ 5 rfl).shape3
     replace SS := Lib.hid (SS.out.rows ho hb)
     clear ho hb
     refine hK.out _ _ (mkS_4 _ _ _ SS.out) (fun hH => ?_)
     clear hK K
     try simp only [pm, s0, sS]
     refine wpAnyH_ready (rs := [3, 9, 10]) (by kernel_rfl) (by simp) ?_
     refine AllReadyH.cons (o := ⟨some 34,.call { callee := .value (.func 7),args := #[.tmp 33],argTypes := #[28] },34,"exact.go:4535",#[⟨2,.data⟩,⟨1,.chain⟩],none⟩) rfl ?_ ?_
     intro K hK
     go_simp
     go_at_call_of 7 (Value.agg #[Value.int .i64 A1,Value.int .i64 B1,Value.bool P1.s,p10,p11,Value.bool Q1.s,q10,q11,Value.bool R1.s,r10,r11])
     refine (toLink_f A1 B1 P1 Q1 R1 p10 p11 q10 q11 r10 r11 _ (SS.out.lkI HA1.out) HL1.out).mono ?_
     rintro e wc_1 ⟨v0_tb, v1_tb, v2_tb, v3_tb, v4_tb, v5_tb, rfl, ho, hb⟩
     obtain ⟨A0tb, n0tb, c0tb, rfl⟩ := (ho.at_ 0 rfl).shape3
     obtain ⟨A1tb, n1tb, c1tb, rfl⟩ := (ho.at_ 1 rfl).shape3
     obtain ⟨A2tb, n2tb, c2tb, rfl⟩ := (ho.at_ 2 rfl).shape3
     obtain ⟨A3tb, n3tb, c3tb, rfl⟩ := (ho.at_ 3 rfl).shape3
     obtain ⟨A4tb, n4tb, c4tb, rfl⟩ := (ho.at_ 4 rfl).shape3
     obtain ⟨A5tb, n5tb, c5tb, rfl⟩ := (ho.at_ 5 rfl).shape3
     replace SS := Lib.hid (SS.out.rows ho hb)
     clear ho hb
     refine hK.out _ _ (mkS_4 _ _ _ SS.out) (fun hH => ?_)
     clear hK K
     try simp only [pm, s0, sS]
     refine wpAnyH_ready (rs := [4, 9, 10]) (by kernel_rfl) (by simp) ?_
     refine AllReadyH.cons (o := ⟨some 35,.call { callee := .value (.func 6),args := #[.tmp 32,.tmp 34],argTypes := #[34,34] },35,"exact.go:4535",#[⟨1,.data⟩,⟨3,.data⟩,⟨3,.chain⟩],none⟩) rfl ?_ ?_
     intro K hK
     go_simp
     go_at_call 6
     refine (HS.out (.slice A0ta n0ta c0ta) (.slice A1ta n1ta c1ta) (.slice A2ta n2ta c2ta) (.slice A3ta n3ta c3ta) (.slice A4ta n4ta c4ta) (.slice A5ta n5ta c5ta) (.slice A0tb n0tb c0tb) (.slice A1tb n1tb c1tb) (.slice A2tb n2tb c2tb) (.slice A3tb n3tb c3tb) (.slice A4tb n4tb c4tb) (.slice A5tb n5tb c5tb) _ (SS.out.lk 1 rfl) (SS.out.lk 0 rfl)).mono ?_
     rintro e wc_9 ⟨v0_w, v1_w, v2_w, v3_w, v4_w, v5_w, v6_w, v7_w, rfl, ho, hb⟩
     obtain ⟨A0w, n0w, c0w, rfl⟩ := (ho.at_ 0 rfl).shape3
     obtain ⟨A1w, n1w, c1w, rfl⟩ := (ho.at_ 1 rfl).shape3
     obtain ⟨A2w, n2w, c2w, rfl⟩ := (ho.at_ 2 rfl).shape3
     obtain ⟨A3w, n3w, c3w, rfl⟩ := (ho.at_ 3 rfl).shape3
     obtain ⟨A4w, n4w, c4w, rfl⟩ := (ho.at_ 4 rfl).shape3
     obtain ⟨A5w, n5w, c5w, rfl⟩ := (ho.at_ 5 rfl).shape3
     obtain ⟨A6w, n6w, c6w, rfl⟩ := (ho.at_ 6 rfl).shape3
     obtain ⟨A7w, n7w, c7w, rfl⟩ := (ho.at_ 7 rfl).shape3
     replace SS := Lib.hid (SS.out.rows ho hb)
     clear ho hb
     refine hK.out _ _ (mkS_4 _ _ _ SS.out) (fun hH => ?_)
     clear hK K
     try simp only [pm, s0, sS]
     refine tkH 5 ?_ ⟨some 30,.move (.tmp 35),35,"exact.go:4535",#[⟨4,.data⟩],none⟩ ?_ ?_
     rotate_left
     · intro w9 hS; (try dsimp only at hS); go_simp; try with_reducible rfl
     try simp only [pm, s0, sS]
     refine tkH 6 ?_ ⟨some 36,.extract (.tmp 30) 0,34,"exact.go:4535",#[⟨5,.data⟩],none⟩ ?_ ?_
     rotate_left
     · intro w9 hS; (try dsimp only at hS); go_simp; try with_reducible rfl
     try simp only [pm, s0, sS]
     refine tkH 7 ?_ ⟨some 37,.extract (.tmp 30) 1,32,"exact.go:4535",#[⟨5,.data⟩,⟨11,.gcOnly .lateStores⟩],none⟩ ?_ ?_
     rotate_left
     · intro w9 hS; (try dsimp only at hS); go_simp; try with_reducible rfl
     try simp only [pm, s0, sS]
     refine tkH 8 ?_ ⟨some 38,.extract (.tmp 30) 2,4,"exact.go:4535",#[⟨5,.data⟩,⟨12,.gcOnly .lateStores⟩],none⟩ ?_ ?_
     rotate_left
     · intro w9 hS; (try dsimp only at hS); go_simp; try with_reducible rfl
     try simp only [pm, s0, sS]
     refine wpAnyH_ready (rs := [9, 10]) (by kernel_rfl) (by simp) ?_
     refine AllReadyH.cons (o := ⟨some 6,.alloc 34,0,"exact.go:4535",#[],none⟩) rfl ?_ ?_
     intro K hK
     go_simp
     replace SS := Lib.hid (SS.out.allocE [.int .i64 0,.int .i64 0,.bool false,.slice none 0 0,.slice none 0 0,.bool false,.slice none 0 0,.slice none 0 0,.bool false,.slice none 0 0,.slice none 0 0] 34)
     simp only [List.cons_append, List.nil_append] at SS
     generalize hbk : Array.size (World.heap wc_9) = bkL at SS ⊢
     clear hbk
     generalize hwa : World.alloc _ _ = waL at SS ⊢
     clear hwa
     refine hK.out _ _ (mkS_4 _ _ _ SS.out) (fun hH => ?_)
     clear hK K
     try simp only [pm, s0, sS]
     refine wpAnyH_ready (rs := [10]) (by kernel_rfl) (by simp) ?_
     refine AllReadyH.cons (o := ⟨some 7,.alloc 32,0,"exact.go:4535",#[],none⟩) rfl ?_ ?_
     intro K hK
     go_simp
     replace SS := Lib.hid (SS.out.allocE [.bool false,.slice none 0 0,.slice none 0 0] 32)
     simp only [List.cons_append, List.nil_append] at SS
     generalize hbk : Array.size (World.heap waL) = bkE at SS ⊢
     clear hbk
     generalize hwa : World.alloc _ _ = waE at SS ⊢
     clear hwa
     refine hK.out _ _ (mkS_4 _ _ _ SS.out) (fun hH => ?_)
     clear hK K
     try simp only [pm, s0, sS]
     clear hH
     revert SS; revert waE; revert bkE; revert bkL; revert A0w n0w c0w A1w n1w c1w A2w n2w c2w A3w n3w c3w A4w n4w c4w A5w n5w c5w A6w n6w c6w A7w n7w c7w; revert A0tb n0tb c0tb A1tb n1tb c1tb A2tb n2tb c2tb A3tb n3tb c3tb A4tb n4tb c4tb A5tb n5tb c5tb; revert A0ta n0ta c0ta A1ta n1ta c1ta A2ta n2ta c2ta A3ta n3ta c3ta A4ta n4ta c4ta A5ta n5ta c5ta
     exact FIN trivial
     exact AllReadyH.nil
     refine AllReadyH.cons (o := ⟨some 7,.alloc 32,0,"exact.go:4535",#[],none⟩) rfl ?_ ?_
     intro K hK
     go_simp
     replace SS := Lib.hid (SS.out.allocE [.bool false,.slice none 0 0,.slice none 0 0] 32)
     simp only [List.cons_append, List.nil_append] at SS
     generalize hbk : Array.size (World.heap wc_9) = bkE at SS ⊢
     clear hbk
     generalize hwa : World.alloc _ _ = waE at SS ⊢
     clear hwa
     refine hK.out _ _ (mkS_4 _ _ _ SS.out) (fun hH => ?_)
     clear hK K
     try simp only [pm, s0, sS]
     refine wpAnyH_ready (rs := [9]) (by kernel_rfl) (by simp) ?_
     refine AllReadyH.cons (o := ⟨some 6,.alloc 34,0,"exact.go:4535",#[],none⟩) rfl ?_ ?_
     intro K hK
     go_simp
     replace SS := Lib.hid (SS.out.allocE [.int .i64 0,.int .i64 0,.bool false,.slice none 0 0,.slice none 0 0,.bool false,.slice none 0 0,.slice none 0 0,.bool false,.slice none 0 0,.slice none 0 0] 34)
     simp only [List.cons_append, List.nil_append] at SS
     generalize hbk : Array.size (World.heap waE) = bkL at SS ⊢
     clear hbk
     generalize hwa : World.alloc _ _ = waL at SS ⊢
     clear hwa
     refine hK.out _ _ (mkS_4 _ _ _ SS.out) (fun hH => ?_)
     clear hK K
     try simp only [pm, s0, sS]
     replace SS := Lib.hid (SS.out.perm (List.Perm.cons _ (List.Perm.cons _ (List.Perm.swap _ _ _))) (List.Perm.refl _))
     clear hH
     revert SS; revert waL; revert bkE; revert bkL; revert A0w n0w c0w A1w n1w c1w A2w n2w c2w A3w n3w c3w A4w n4w c4w A5w n5w c5w A6w n6w c6w A7w n7w c7w; revert A0tb n0tb c0tb A1tb n1tb c1tb A2tb n2tb c2tb A3tb n3tb c3tb A4tb n4tb c4tb A5tb n5tb c5tb; revert A0ta n0ta c0ta A1ta n1ta c1ta A2ta n2ta c2ta A3ta n3ta c3ta A4ta n4ta c4ta A5ta n5ta c5ta
     exact FIN trivial
     exact AllReadyH.nil
     exact AllReadyH.nil
     refine AllReadyH.cons (o := ⟨some 6,.alloc 34,0,"exact.go:4535",#[],none⟩) rfl ?_ ?_
     intro K hK
     go_simp
     replace SS := Lib.hid (SS.out.allocE [.int .i64 0,.int .i64 0,.bool false,.slice none 0 0,.slice none 0 0,.bool false,.slice none 0 0,.slice none 0 0,.bool false,.slice none 0 0,.slice none 0 0] 34)
     simp only [List.cons_append, List.nil_append] at SS
     generalize hbk : Array.size (World.heap wc_1) = bkL at SS ⊢
     clear hbk
     generalize hwa : World.alloc _ _ = waL at SS ⊢
     clear hwa
     refine hK.out _ _ (mkS_4 _ _ _ SS.out) (fun hH => ?_)
     clear hK K
     try simp only [pm, s0, sS]
     refine wpAnyH_ready (rs := [4, 10]) (by kernel_rfl) (by simp) ?_
     refine AllReadyH.cons (o := ⟨some 35,.call { callee := .value (.func 6),args := #[.tmp 32,.tmp 34],argTypes := #[34,34] },35,"exact.go:4535",#[⟨1,.data⟩,⟨3,.data⟩,⟨3,.chain⟩],none⟩) rfl ?_ ?_
     intro K hK
     go_simp
     go_at_call 6
     refine (HS.out (.slice A0ta n0ta c0ta) (.slice A1ta n1ta c1ta) (.slice A2ta n2ta c2ta) (.slice A3ta n3ta c3ta) (.slice A4ta n4ta c4ta) (.slice A5ta n5ta c5ta) (.slice A0tb n0tb c0tb) (.slice A1tb n1tb c1tb) (.slice A2tb n2tb c2tb) (.slice A3tb n3tb c3tb) (.slice A4tb n4tb c4tb) (.slice A5tb n5tb c5tb) _ (SS.out.lk 1 rfl) (SS.out.lk 0 rfl)).mono ?_
     rintro e wc_9 ⟨v0_w, v1_w, v2_w, v3_w, v4_w, v5_w, v6_w, v7_w, rfl, ho, hb⟩
     obtain ⟨A0w, n0w, c0w, rfl⟩ := (ho.at_ 0 rfl).shape3
     obtain ⟨A1w, n1w, c1w, rfl⟩ := (ho.at_ 1 rfl).shape3
     obtain ⟨A2w, n2w, c2w, rfl⟩ := (ho.at_ 2 rfl).shape3
     obtain ⟨A3w, n3w, c3w, rfl⟩ := (ho.at_ 3 rfl).shape3
     obtain ⟨A4w, n4w, c4w, rfl⟩ := (ho.at_ 4 rfl).shape3
     obtain ⟨A5w, n5w, c5w, rfl⟩ := (ho.at_ 5 rfl).shape3
     obtain ⟨A6w, n6w, c6w, rfl⟩ := (ho.at_ 6 rfl).shape3
     obtain ⟨A7w, n7w, c7w, rfl⟩ := (ho.at_ 7 rfl).shape3
     replace SS := Lib.hid (SS.out.rows ho hb)
     clear ho hb
     refine hK.out _ _ (mkS_4 _ _ _ SS.out) (fun hH => ?_)
     clear hK K
     try simp only [pm, s0, sS]
     refine tkH 5 ?_ ⟨some 30,.move (.tmp 35),35,"exact.go:4535",#[⟨4,.data⟩],none⟩ ?_ ?_
     rotate_left
     · intro w9 hS; (try dsimp only at hS); go_simp; try with_reducible rfl
     try simp only [pm, s0, sS]
     refine tkH 6 ?_ ⟨some 36,.extract (.tmp 30) 0,34,"exact.go:4535",#[⟨5,.data⟩],none⟩ ?_ ?_
     rotate_left
     · intro w9 hS; (try dsimp only at hS); go_simp; try with_reducible rfl
     try simp only [pm, s0, sS]
     refine tkH 7 ?_ ⟨some 37,.extract (.tmp 30) 1,32,"exact.go:4535",#[⟨5,.data⟩,⟨11,.gcOnly .lateStores⟩],none⟩ ?_ ?_
     rotate_left
     · intro w9 hS; (try dsimp only at hS); go_simp; try with_reducible rfl
     try simp only [pm, s0, sS]
     refine tkH 8 ?_ ⟨some 38,.extract (.tmp 30) 2,4,"exact.go:4535",#[⟨5,.data⟩,⟨12,.gcOnly .lateStores⟩],none⟩ ?_ ?_
     rotate_left
     · intro w9 hS; (try dsimp only at hS); go_simp; try with_reducible rfl
     try simp only [pm, s0, sS]
     refine wpAnyH_ready (rs := [10]) (by kernel_rfl) (by simp) ?_
     refine AllReadyH.cons (o := ⟨some 7,.alloc 32,0,"exact.go:4535",#[],none⟩) rfl ?_ ?_
     intro K hK
     go_simp
     replace SS := Lib.hid (SS.out.allocE [.bool false,.slice none 0 0,.slice none 0 0] 32)
     simp only [List.cons_append, List.nil_append] at SS
     generalize hbk : Array.size (World.heap wc_9) = bkE at SS ⊢
     clear hbk
     generalize hwa : World.alloc _ _ = waE at SS ⊢
     clear hwa
     refine hK.out _ _ (mkS_4 _ _ _ SS.out) (fun hH => ?_)
     clear hK K
     try simp only [pm, s0, sS]
     clear hH
     revert SS; revert waE; revert bkE; revert bkL; revert A0w n0w c0w A1w n1w c1w A2w n2w c2w A3w n3w c3w A4w n4w c4w A5w n5w c5w A6w n6w c6w A7w n7w c7w; revert A0tb n0tb c0tb A1tb n1tb c1tb A2tb n2tb c2tb A3tb n3tb c3tb A4tb n4tb c4tb A5tb n5tb c5tb; revert A0ta n0ta c0ta A1ta n1ta c1ta A2ta n2ta c2ta A3ta n3ta c3ta A4ta n4ta c4ta A5ta n5ta c5ta
     exact FIN trivial
     exact AllReadyH.nil
     refine AllReadyH.cons (o := ⟨some 7,.alloc 32,0,"exact.go:4535",#[],none⟩) rfl ?_ ?_
     intro K hK
     go_simp
     replace SS := Lib.hid (SS.out.allocE [.bool false,.slice none 0 0,.slice none 0 0] 32)
     simp only [List.cons_append, List.nil_append] at SS
     generalize hbk : Array.size (World.heap waL) = bkE at SS ⊢
     clear hbk
     generalize hwa : World.alloc _ _ = waE at SS ⊢
     clear hwa
     refine hK.out _ _ (mkS_4 _ _ _ SS.out) (fun hH => ?_)
     clear hK K
     try simp only [pm, s0, sS]
     refine wpAnyH_ready (rs := [4]) (by kernel_rfl) (by simp) ?_
     refine AllReadyH.cons (o := ⟨some 35,.call { callee := .value (.func 6),args := #[.tmp 32,.tmp 34],argTypes := #[34,34] },35,"exact.go:4535",#[⟨1,.data⟩,⟨3,.data⟩,⟨3,.chain⟩],none⟩) rfl ?_ ?_
     intro K hK
     go_simp
     go_at_call 6
     refine (HS.out (.slice A0ta n0ta c0ta) (.slice A1ta n1ta c1ta) (.slice A2ta n2ta c2ta) (.slice A3ta n3ta c3ta) (.slice A4ta n4ta c4ta) (.slice A5ta n5ta c5ta) (.slice A0tb n0tb c0tb) (.slice A1tb n1tb c1tb) (.slice A2tb n2tb c2tb) (.slice A3tb n3tb c3tb) (.slice A4tb n4tb c4tb) (.slice A5tb n5tb c5tb) _ (SS.out.lk 1 rfl) (SS.out.lk 0 rfl)).mono ?_
     rintro e wc_9 ⟨v0_w, v1_w, v2_w, v3_w, v4_w, v5_w, v6_w, v7_w, rfl, ho, hb⟩
     obtain ⟨A0w, n0w, c0w, rfl⟩ := (ho.at_ 0 rfl).shape3
     obtain ⟨A1w, n1w, c1w, rfl⟩ := (ho.at_ 1 rfl).shape3
     obtain ⟨A2w, n2w, c2w, rfl⟩ := (ho.at_ 2 rfl).shape3
     obtain ⟨A3w, n3w, c3w, rfl⟩ := (ho.at_ 3 rfl).shape3
     obtain ⟨A4w, n4w, c4w, rfl⟩ := (ho.at_ 4 rfl).shape3
     obtain ⟨A5w, n5w, c5w, rfl⟩ := (ho.at_ 5 rfl).shape3
     obtain ⟨A6w, n6w, c6w, rfl⟩ := (ho.at_ 6 rfl).shape3
     obtain ⟨A7w, n7w, c7w, rfl⟩ := (ho.at_ 7 rfl).shape3
     replace SS := Lib.hid (SS.out.rows ho hb)
     clear ho hb
     refine hK.out _ _ (mkS_4 _ _ _ SS.out) (fun hH => ?_)
     clear hK K
     try simp only [pm, s0, sS]
     refine tkH 5 ?_ ⟨some 30,.move (.tmp 35),35,"exact.go:4535",#[⟨4,.data⟩],none⟩ ?_ ?_
     rotate_left
     · intro w9 hS; (try dsimp only at hS); go_simp; try with_reducible rfl
     try simp only [pm, s0, sS]
     refine tkH 6 ?_ ⟨some 36,.extract (.tmp 30) 0,34,"exact.go:4535",#[⟨5,.data⟩],none⟩ ?_ ?_
     rotate_left
     · intro w9 hS; (try dsimp only at hS); go_simp; try with_reducible rfl
     try simp only [pm, s0, sS]
     refine tkH 7 ?_ ⟨some 37,.extract (.tmp 30) 1,32,"exact.go:4535",#[⟨5,.data⟩,⟨11,.gcOnly .lateStores⟩],none⟩ ?_ ?_
     rotate_left
     · intro w9 hS; (try dsimp only at hS); go_simp; try with_reducible rfl
     try simp only [pm, s0, sS]
     refine tkH 8 ?_ ⟨some 38,.extract (.tmp 30) 2,4,"exact.go:4535",#[⟨5,.data⟩,⟨12,.gcOnly .lateStores⟩],none⟩ ?_ ?_
     rotate_left
     · intro w9 hS; (try dsimp only at hS); go_simp; try with_reducible rfl
     try simp only [pm, s0, sS]
     clear hH
     revert SS; revert wc_9; revert bkE; revert bkL; revert A0w n0w c0w A1w n1w c1w A2w n2w c2w A3w n3w c3w A4w n4w c4w A5w n5w c5w A6w n6w c6w A7w n7w c7w; revert A0tb n0tb c0tb A1tb n1tb c1tb A2tb n2tb c2tb A3tb n3tb c3tb A4tb n4tb c4tb A5tb n5tb c5tb; revert A0ta n0ta c0ta A1ta n1ta c1ta A2ta n2ta c2ta A3ta n3ta c3ta A4ta n4ta c4ta A5ta n5ta c5ta
     exact FIN trivial
     exact AllReadyH.nil
     exact AllReadyH.nil
     refine AllReadyH.cons (o := ⟨some 7,.alloc 32,0,"exact.go:4535",#[],none⟩) rfl ?_ ?_
     intro K hK
     go_simp
     replace SS := Lib.hid (SS.out.allocE [.bool false,.slice none 0 0,.slice none 0 0] 32)
     simp only [List.cons_append, List.nil_append] at SS
     generalize hbk : Array.size (World.heap wc_1) = bkE at SS ⊢
     clear hbk
     generalize hwa : World.alloc _ _ = waE at SS ⊢
     clear hwa
     refine hK.out _ _ (mkS_4 _ _ _ SS.out) (fun hH => ?_)
     clear hK K
     try simp only [pm, s0, sS]
     refine wpAnyH_ready (rs := [4, 9]) (by kernel_rfl) (by simp) ?_
     refine AllReadyH.cons (o := ⟨some 35,.call { callee := .value (.func 6),args := #[.tmp 32,.tmp 34],argTypes := #[34,34] },35,"exact.go:4535",#[⟨1,.data⟩,⟨3,.data⟩,⟨3,.chain⟩],none⟩) rfl ?_ ?_
     intro K hK
     go_simp
     go_at_call 6
     refine (HS.out (.slice A0ta n0ta c0ta) (.slice A1ta n1ta c1ta) (.slice A2ta n2ta c2ta) (.slice A3ta n3ta c3ta) (.slice A4ta n4ta c4ta) (.slice A5ta n5ta c5ta) (.slice A0tb n0tb c0tb) (.slice A1tb n1tb c1tb) (.slice A2tb n2tb c2tb) (.slice A3tb n3tb c3tb) (.slice A4tb n4tb c4tb) (.slice A5tb n5tb c5tb) _ (SS.out.lk 1 rfl) (SS.out.lk 0 rfl)).mono ?_
     rintro e wc_9 ⟨v0_w, v1_w, v2_w, v3_w, v4_w, v5_w, v6_w, v7_w, rfl, ho, hb⟩
     obtain ⟨A0w, n0w, c0w, rfl⟩ := (ho.at_ 0 rfl).shape3
     obtain ⟨A1w, n1w, c1w, rfl⟩ := (ho.at_ 1 rfl).shape3
     obtain ⟨A2w, n2w, c2w, rfl⟩ := (ho.at_ 2 rfl).shape3
     obtain ⟨A3w, n3w, c3w, rfl⟩ := (ho.at_ 3 rfl).shape3
     obtain ⟨A4w, n4w, c4w, rfl⟩ := (ho.at_ 4 rfl).shape3
     obtain ⟨A5w, n5w, c5w, rfl⟩ := (ho.at_ 5 rfl).shape3
     obtain ⟨A6w, n6w, c6w, rfl⟩ := (ho.at_ 6 rfl).shape3
     obtain ⟨A7w, n7w, c7w, rfl⟩ := (ho.at_ 7 rfl).shape3
     replace SS := Lib.hid (SS.out.rows ho hb)
     clear ho hb
     refine hK.out _ _ (mkS_4 _ _ _ SS.out) (fun hH => ?_)
     clear hK K
     try simp only [pm, s0, sS]
     refine tkH 5 ?_ ⟨some 30,.move (.tmp 35),35,"exact.go:4535",#[⟨4,.data⟩],none⟩ ?_ ?_
     rotate_left
     · intro w9 hS; (try dsimp only at hS); go_simp; try with_reducible rfl
     try simp only [pm, s0, sS]
     refine tkH 6 ?_ ⟨some 36,.extract (.tmp 30) 0,34,"exact.go:4535",#[⟨5,.data⟩],none⟩ ?_ ?_
     rotate_left
     · intro w9 hS; (try dsimp only at hS); go_simp; try with_reducible rfl
     try simp only [pm, s0, sS]
     refine tkH 7 ?_ ⟨some 37,.extract (.tmp 30) 1,32,"exact.go:4535",#[⟨5,.data⟩,⟨11,.gcOnly .lateStores⟩],none⟩ ?_ ?_
     rotate_left
     · intro w9 hS; (try dsimp only at hS); go_simp; try with_reducible rfl
     try simp only [pm, s0, sS]
     refine tkH 8 ?_ ⟨some 38,.extract (.tmp 30) 2,4,"exact.go:4535",#[⟨5,.data⟩,⟨12,.gcOnly .lateStores⟩],none⟩ ?_ ?_
     rotate_left
     · intro w9 hS; (try dsimp only at hS); go_simp; try with_reducible rfl
     try simp only [pm, s0, sS]
     refine wpAnyH_ready (rs := [9]) (by kernel_rfl) (by simp) ?_
     refine AllReadyH.cons (o := ⟨some 6,.alloc 34,0,"exact.go:4535",#[],none⟩) rfl ?_ ?_
     intro K hK
     go_simp
     replace SS := Lib.hid (SS.out.allocE [.int .i64 0,.int .i64 0,.bool false,.slice none 0 0,.slice none 0 0,.bool false,.slice none 0 0,.slice none 0 0,.bool false,.slice none 0 0,.slice none 0 0] 34)
     simp only [List.cons_append, List.nil_append] at SS
     generalize hbk : Array.size (World.heap wc_9) = bkL at SS ⊢
     clear hbk
     generalize hwa : World.alloc _ _ = waL at SS ⊢
     clear hwa
     refine hK.out _ _ (mkS_4 _ _ _ SS.out) (fun hH => ?_)
     clear hK K
     try simp only [pm, s0, sS]
     replace SS := Lib.hid (SS.out.perm (List.Perm.cons _ (List.Perm.cons _ (List.Perm.swap _ _ _))) (List.Perm.refl _))
     clear hH
     revert SS; revert waL; revert bkE; revert bkL; revert A0w n0w c0w A1w n1w c1w A2w n2w c2w A3w n3w c3w A4w n4w c4w A5w n5w c5w A6w n6w c6w A7w n7w c7w; revert A0tb n0tb c0tb A1tb n1tb c1tb A2tb n2tb c2tb A3tb n3tb c3tb A4tb n4tb c4tb A5tb n5tb c5tb; revert A0ta n0ta c0ta A1ta n1ta c1ta A2ta n2ta c2ta A3ta n3ta c3ta A4ta n4ta c4ta A5ta n5ta c5ta
     exact FIN trivial
     exact AllReadyH.nil
     refine AllReadyH.cons (o := ⟨some 6,.alloc 34,0,"exact.go:4535",#[],none⟩) rfl ?_ ?_
     intro K hK
     go_simp
     replace SS := Lib.hid (SS.out.allocE [.int .i64 0,.int .i64 0,.bool false,.slice none 0 0,.slice none 0 0,.bool false,.slice none 0 0,.slice none 0 0,.bool false,.slice none 0 0,.slice none 0 0] 34)
     simp only [List.cons_append, List.nil_append] at SS
     generalize hbk : Array.size (World.heap waE) = bkL at SS ⊢
     clear hbk
     generalize hwa : World.alloc _ _ = waL at SS ⊢
     clear hwa
     refine hK.out _ _ (mkS_4 _ _ _ SS.out) (fun hH => ?_)
     clear hK K
     try simp only [pm, s0, sS]
     refine wpAnyH_ready (rs := [4]) (by kernel_rfl) (by simp) ?_
     refine AllReadyH.cons (o := ⟨some 35,.call { callee := .value (.func 6),args := #[.tmp 32,.tmp 34],argTypes := #[34,34] },35,"exact.go:4535",#[⟨1,.data⟩,⟨3,.data⟩,⟨3,.chain⟩],none⟩) rfl ?_ ?_
     intro K hK
     go_simp
     go_at_call 6
     refine (HS.out (.slice A0ta n0ta c0ta) (.slice A1ta n1ta c1ta) (.slice A2ta n2ta c2ta) (.slice A3ta n3ta c3ta) (.slice A4ta n4ta c4ta) (.slice A5ta n5ta c5ta) (.slice A0tb n0tb c0tb) (.slice A1tb n1tb c1tb) (.slice A2tb n2tb c2tb) (.slice A3tb n3tb c3tb) (.slice A4tb n4tb c4tb) (.slice A5tb n5tb c5tb) _ (SS.out.lk 1 rfl) (SS.out.lk 0 rfl)).mono ?_
     rintro e wc_9 ⟨v0_w, v1_w, v2_w, v3_w, v4_w, v5_w, v6_w, v7_w, rfl, ho, hb⟩
     obtain ⟨A0w, n0w, c0w, rfl⟩ := (ho.at_ 0 rfl).shape3
     obtain ⟨A1w, n1w, c1w, rfl⟩ := (ho.at_ 1 rfl).shape3
     obtain ⟨A2w, n2w, c2w, rfl⟩ := (ho.at_ 2 rfl).shape3
     obtain ⟨A3w, n3w, c3w, rfl⟩ := (ho.at_ 3 rfl).shape3
     obtain ⟨A4w, n4w, c4w, rfl⟩ := (ho.at_ 4 rfl).shape3
     obtain ⟨A5w, n5w, c5w, rfl⟩ := (ho.at_ 5 rfl).shape3
     obtain ⟨A6w, n6w, c6w, rfl⟩ := (ho.at_ 6 rfl).shape3
     obtain ⟨A7w, n7w, c7w, rfl⟩ := (ho.at_ 7 rfl).shape3
     replace SS := Lib.hid (SS.out.rows ho hb)
     clear ho hb
     refine hK.out _ _ (mkS_4 _ _ _ SS.out) (fun hH => ?_)
     clear hK K
     try simp only [pm, s0, sS]
     refine tkH 5 ?_ ⟨some 30,.move (.tmp 35),35,"exact.go:4535",#[⟨4,.data⟩],none⟩ ?_ ?_
     rotate_left
     · intro w9 hS; (try dsimp only at hS); go_simp; try with_reducible rfl
     try simp only [pm, s0, sS]
     refine tkH 6 ?_ ⟨some 36,.extract (.tmp 30) 0,34,"exact.go:4535",#[⟨5,.data⟩],none⟩ ?_ ?_
     rotate_left
     · intro w9 hS; (try dsimp only at hS); go_simp; try with_reducible rfl
     try simp only [pm, s0, sS]
     refine tkH 7 ?_ ⟨some 37,.extract (.tmp 30) 1,32,"exact.go:4535",#[⟨5,.data⟩,⟨11,.gcOnly .lateStores⟩],none⟩ ?_ ?_
     rotate_left
     · intro w9 hS; (try dsimp only at hS); go_simp; try with_reducible rfl
     try simp only [pm, s0, sS]
     refine tkH 8 ?_ ⟨some 38,.extract (.tmp 30) 2,4,"exact.go:4535",#[⟨5,.data⟩,⟨12,.gcOnly .lateStores⟩],none⟩ ?_ ?_
     rotate_left
     · intro w9 hS; (try dsimp only at hS); go_simp; try with_reducible rfl
     try simp only [pm, s0, sS]
     replace SS := Lib.hid (SS.out.perm (List.Perm.cons _ (List.Perm.cons _ (List.Perm.swap _ _ _))) (List.Perm.refl _))
     clear hH
     revert SS; revert wc_9; revert bkE; revert bkL; revert A0w n0w c0w A1w n1w c1w A2w n2w c2w A3w n3w c3w A4w n4w c4w A5w n5w c5w A6w n6w c6w A7w n7w c7w; revert A0tb n0tb c0tb A1tb n1tb c1tb A2tb n2tb c2tb A3tb n3tb c3tb A4tb n4tb c4tb A5tb n5tb c5tb; revert A0ta n0ta c0ta A1ta n1ta c1ta A2ta n2ta c2ta A3ta n3ta c3ta A4ta n4ta c4ta A5ta n5ta c5ta
     exact FIN trivial
     exact AllReadyH.nil
     exact AllReadyH.nil
     exact AllReadyH.nil
     refine AllReadyH.cons (o := ⟨some 6,.alloc 34,0,"exact.go:4535",#[],none⟩) rfl ?_ ?_
     intro K hK
     go_simp
     replace SS := Lib.hid (SS.out.allocE [.int .i64 0,.int .i64 0,.bool false,.slice none 0 0,.slice none 0 0,.bool false,.slice none 0 0,.slice none 0 0,.bool false,.slice none 0 0,.slice none 0 0] 34)
     simp only [List.cons_append, List.nil_append] at SS
     generalize hbk : Array.size (World.heap wc_0) = bkL at SS ⊢
     clear hbk
     generalize hwa : World.alloc _ _ = waL at SS ⊢
     clear hwa
     refine hK.out _ _ (mkS_4 _ _ _ SS.out) (fun hH => ?_)
     clear hK K
     try simp only [pm, s0, sS]
     refine wpAnyH_ready (rs := [3, 10]) (by kernel_rfl) (by simp) ?_
     refine AllReadyH.cons (o := ⟨some 34,.call { callee := .value (.func 7),args := #[.tmp 33],argTypes := #[28] },34,"exact.go:4535",#[⟨2,.data⟩,⟨1,.chain⟩],none⟩) rfl ?_ ?_
     intro K hK
     go_simp
     go_at_call_of 7 (Value.agg #[Value.int .i64 A1,Value.int .i64 B1,Value.bool P1.s,p10,p11,Value.bool Q1.s,q10,q11,Value.bool R1.s,r10,r11])
     refine (toLink_f A1 B1 P1 Q1 R1 p10 p11 q10 q11 r10 r11 _ (SS.out.lkI HA1.out) HL1.out).mono ?_
     rintro e wc_1 ⟨v0_tb, v1_tb, v2_tb, v3_tb, v4_tb, v5_tb, rfl, ho, hb⟩
     obtain ⟨A0tb, n0tb, c0tb, rfl⟩ := (ho.at_ 0 rfl).shape3
     obtain ⟨A1tb, n1tb, c1tb, rfl⟩ := (ho.at_ 1 rfl).shape3
     obtain ⟨A2tb, n2tb, c2tb, rfl⟩ := (ho.at_ 2 rfl).shape3
     obtain ⟨A3tb, n3tb, c3tb, rfl⟩ := (ho.at_ 3 rfl).shape3
     obtain ⟨A4tb, n4tb, c4tb, rfl⟩ := (ho.at_ 4 rfl).shape3
     obtain ⟨A5tb, n5tb, c5tb, rfl⟩ := (ho.at_ 5 rfl).shape3
     replace SS := Lib.hid (SS.out.rows ho hb)
     clear ho hb
     refine hK.out _ _ (mkS_4 _ _ _ SS.out) (fun hH => ?_)
     clear hK K
     try simp only [pm, s0, sS]
     refine wpAnyH_ready (rs := [4, 10]) (by kernel_rfl) (by simp) ?_
     refine AllReadyH.cons (o := ⟨some 35,.call { callee := .value (.func 6),args := #[.tmp 32,.tmp 34],argTypes := #[34,34] },35,"exact.go:4535",#[⟨1,.data⟩,⟨3,.data⟩,⟨3,.chain⟩],none⟩) rfl ?_ ?_
     intro K hK
     go_simp
     go_at_call 6
     refine (HS.out (.slice A0ta n0ta c0ta) (.slice A1ta n1ta c1ta) (.slice A2ta n2ta c2ta) (.slice A3ta n3ta c3ta) (.slice A4ta n4ta c4ta) (.slice A5ta n5ta c5ta) (.slice A0tb n0tb c0tb) (.slice A1tb n1tb c1tb) (.slice A2tb n2tb c2tb) (.slice A3tb n3tb c3tb) (.slice A4tb n4tb c4tb) (.slice A5tb n5tb c5tb) _ (SS.out.lk 1 rfl) (SS.out.lk 0 rfl)).mono ?_
     rintro e wc_9 ⟨v0_w, v1_w, v2_w, v3_w, v4_w, v5_w, v6_w, v7_w, rfl, ho, hb⟩
     obtain ⟨A0w, n0w, c0w, rfl⟩ := (ho.at_ 0 rfl).shape3
     obtain ⟨A1w, n1w, c1w, rfl⟩ := (ho.at_ 1 rfl).shape3
     obtain ⟨A2w, n2w, c2w, rfl⟩ := (ho.at_ 2 rfl).shape3
     obtain ⟨A3w, n3w, c3w, rfl⟩ := (ho.at_ 3 rfl).shape3
     obtain ⟨A4w, n4w, c4w, rfl⟩ := (ho.at_ 4 rfl).shape3
     obtain ⟨A5w, n5w, c5w, rfl⟩ := (ho.at_ 5 rfl).shape3
     obtain ⟨A6w, n6w, c6w, rfl⟩ := (ho.at_ 6 rfl).shape3
     obtain ⟨A7w, n7w, c7w, rfl⟩ := (ho.at_ 7 rfl).shape3
     replace SS := Lib.hid (SS.out.rows ho hb)
     clear ho hb
     refine hK.out _ _ (mkS_4 _ _ _ SS.out) (fun hH => ?_)
     clear hK K
     try simp only [pm, s0, sS]
     refine tkH 5 ?_ ⟨some 30,.move (.tmp 35),35,"exact.go:4535",#[⟨4,.data⟩],none⟩ ?_ ?_
     rotate_left
     · intro w9 hS; (try dsimp only at hS); go_simp; try with_reducible rfl
     try simp only [pm, s0, sS]
     refine tkH 6 ?_ ⟨some 36,.extract (.tmp 30) 0,34,"exact.go:4535",#[⟨5,.data⟩],none⟩ ?_ ?_
     rotate_left
     · intro w9 hS; (try dsimp only at hS); go_simp; try with_reducible rfl
     try simp only [pm, s0, sS]
     refine tkH 7 ?_ ⟨some 37,.extract (.tmp 30) 1,32,"exact.go:4535",#[⟨5,.data⟩,⟨11,.gcOnly .lateStores⟩],none⟩ ?_ ?_
     rotate_left
     · intro w9 hS; (try dsimp only at hS); go_simp; try with_reducible rfl
     try simp only [pm, s0, sS]
     refine tkH 8 ?_ ⟨some 38,.extract (.tmp 30) 2,4,"exact.go:4535",#[⟨5,.data⟩,⟨12,.gcOnly .lateStores⟩],none⟩ ?_ ?_
     rotate_left
     · intro w9 hS; (try dsimp only at hS); go_simp; try with_reducible rfl
     try simp only [pm, s0, sS]
     refine wpAnyH_ready (rs := [10]) (by kernel_rfl) (by simp) ?_
     refine AllReadyH.cons (o := ⟨some 7,.alloc 32,0,"exact.go:4535",#[],none⟩) rfl ?_ ?_
     intro K hK
     go_simp
     replace SS := Lib.hid (SS.out.allocE [.bool false,.slice none 0 0,.slice none 0 0] 32)
     simp only [List.cons_append, List.nil_append] at SS
     generalize hbk : Array.size (World.heap wc_9) = bkE at SS ⊢
     clear hbk
     generalize hwa : World.alloc _ _ = waE at SS ⊢
     clear hwa
     refine hK.out _ _ (mkS_4 _ _ _ SS.out) (fun hH => ?_)
     clear hK K
     try simp only [pm, s0, sS]
     clear hH
     revert SS; revert waE; revert bkE; revert bkL; revert A0w n0w c0w A1w n1w c1w A2w n2w c2w A3w n3w c3w A4w n4w c4w A5w n5w c5w A6w n6w c6w A7w n7w c7w; revert A0tb n0tb c0tb A1tb n1tb c1tb A2tb n2tb c2tb A3tb n3tb c3tb A4tb n4tb c4tb A5tb n5tb c5tb; revert A0ta n0ta c0ta A1ta n1ta c1ta A2ta n2ta c2ta A3ta n3ta c3ta A4ta n4ta c4ta A5ta n5ta c5ta
     exact FIN trivial
     exact AllReadyH.nil
     refine AllReadyH.cons (o := ⟨some 7,.alloc 32,0,"exact.go:4535",#[],none⟩) rfl ?_ ?_
     intro K hK
     go_simp
     replace SS := Lib.hid (SS.out.allocE [.bool false,.slice none 0 0,.slice none 0 0] 32)
     simp only [List.cons_append, List.nil_append] at SS
     generalize hbk : Array.size (World.heap wc_1) = bkE at SS ⊢
     clear hbk
     generalize hwa : World.alloc _ _ = waE at SS ⊢
     clear hwa
     refine hK.out _ _ (mkS_4 _ _ _ SS.out) (fun hH => ?_)
     clear hK K
     try simp only [pm, s0, sS]
     refine wpAnyH_ready (rs := [4]) (by kernel_rfl) (by simp) ?_
     refine AllReadyH.cons (o := ⟨some 35,.call { callee := .value (.func 6),args := #[.tmp 32,.tmp 34],argTypes := #[34,34] },35,"exact.go:4535",#[⟨1,.data⟩,⟨3,.data⟩,⟨3,.chain⟩],none⟩) rfl ?_ ?_
     intro K hK
     go_simp
     go_at_call 6
     refine (HS.out (.slice A0ta n0ta c0ta) (.slice A1ta n1ta c1ta) (.slice A2ta n2ta c2ta) (.slice A3ta n3ta c3ta) (.slice A4ta n4ta c4ta) (.slice A5ta n5ta c5ta) (.slice A0tb n0tb c0tb) (.slice A1tb n1tb c1tb) (.slice A2tb n2tb c2tb) (.slice A3tb n3tb c3tb) (.slice A4tb n4tb c4tb) (.slice A5tb n5tb c5tb) _ (SS.out.lk 1 rfl) (SS.out.lk 0 rfl)).mono ?_
     rintro e wc_9 ⟨v0_w, v1_w, v2_w, v3_w, v4_w, v5_w, v6_w, v7_w, rfl, ho, hb⟩
     obtain ⟨A0w, n0w, c0w, rfl⟩ := (ho.at_ 0 rfl).shape3
     obtain ⟨A1w, n1w, c1w, rfl⟩ := (ho.at_ 1 rfl).shape3
     obtain ⟨A2w, n2w, c2w, rfl⟩ := (ho.at_ 2 rfl).shape3
     obtain ⟨A3w, n3w, c3w, rfl⟩ := (ho.at_ 3 rfl).shape3
     obtain ⟨A4w, n4w, c4w, rfl⟩ := (ho.at_ 4 rfl).shape3
     obtain ⟨A5w, n5w, c5w, rfl⟩ := (ho.at_ 5 rfl).shape3
     obtain ⟨A6w, n6w, c6w, rfl⟩ := (ho.at_ 6 rfl).shape3
     obtain ⟨A7w, n7w, c7w, rfl⟩ := (ho.at_ 7 rfl).shape3
     replace SS := Lib.hid (SS.out.rows ho hb)
     clear ho hb
     refine hK.out _ _ (mkS_4 _ _ _ SS.out) (fun hH => ?_)
     clear hK K
     try simp only [pm, s0, sS]
     refine tkH 5 ?_ ⟨some 30,.move (.tmp 35),35,"exact.go:4535",#[⟨4,.data⟩],none⟩ ?_ ?_
     rotate_left
     · intro w9 hS; (try dsimp only at hS); go_simp; try with_reducible rfl
     try simp only [pm, s0, sS]
     refine tkH 6 ?_ ⟨some 36,.extract (.tmp 30) 0,34,"exact.go:4535",#[⟨5,.data⟩],none⟩ ?_ ?_
     rotate_left
     · intro w9 hS; (try dsimp only at hS); go_simp; try with_reducible rfl
     try simp only [pm, s0, sS]
     refine tkH 7 ?_ ⟨some 37,.extract (.tmp 30) 1,32,"exact.go:4535",#[⟨5,.data⟩,⟨11,.gcOnly .lateStores⟩],none⟩ ?_ ?_
     rotate_left
     · intro w9 hS; (try dsimp only at hS); go_simp; try with_reducible rfl
     try simp only [pm, s0, sS]
     refine tkH 8 ?_ ⟨some 38,.extract (.tmp 30) 2,4,"exact.go:4535",#[⟨5,.data⟩,⟨12,.gcOnly .lateStores⟩],none⟩ ?_ ?_
     rotate_left
     · intro w9 hS; (try dsimp only at hS); go_simp; try with_reducible rfl
     try simp only [pm, s0, sS]
     clear hH
     revert SS; revert wc_9; revert bkE; revert bkL; revert A0w n0w c0w A1w n1w c1w A2w n2w c2w A3w n3w c3w A4w n4w c4w A5w n5w c5w A6w n6w c6w A7w n7w c7w; revert A0tb n0tb c0tb A1tb n1tb c1tb A2tb n2tb c2tb A3tb n3tb c3tb A4tb n4tb c4tb A5tb n5tb c5tb; revert A0ta n0ta c0ta A1ta n1ta c1ta A2ta n2ta c2ta A3ta n3ta c3ta A4ta n4ta c4ta A5ta n5ta c5ta
     exact FIN trivial
     exact AllReadyH.nil
     exact AllReadyH.nil
     refine AllReadyH.cons (o := ⟨some 7,.alloc 32,0,"exact.go:4535",#[],none⟩) rfl ?_ ?_
     intro K hK
     go_simp
     replace SS := Lib.hid (SS.out.allocE [.bool false,.slice none 0 0,.slice none 0 0] 32)
     simp only [List.cons_append, List.nil_append] at SS
     generalize hbk : Array.size (World.heap waL) = bkE at SS ⊢
     clear hbk
     generalize hwa : World.alloc _ _ = waE at SS ⊢
     clear hwa
     refine hK.out _ _ (mkS_4 _ _ _ SS.out) (fun hH => ?_)
     clear hK K
     try simp only [pm, s0, sS]
     refine wpAnyH_ready (rs := [3]) (by kernel_rfl) (by simp) ?_
     refine AllReadyH.cons (o := ⟨some 34,.call { callee := .value (.func 7),args := #[.tmp 33],argTypes := #[28] },34,"exact.go:4535",#[⟨2,.data⟩,⟨1,.chain⟩],none⟩) rfl ?_ ?_
     intro K hK
     go_simp
     go_at_call_of 7 (Value.agg #[Value.int .i64 A1,Value.int .i64 B1,Value.bool P1.s,p10,p11,Value.bool Q1.s,q10,q11,Value.bool R1.s,r10,r11])
     refine (toLink_f A1 B1 P1 Q1 R1 p10 p11 q10 q11 r10 r11 _ (SS.out.lkI HA1.out) HL1.out).mono ?_
     rintro e wc_1 ⟨v0_tb, v1_tb, v2_tb, v3_tb, v4_tb, v5_tb, rfl, ho, hb⟩
     obtain ⟨A0tb, n0tb, c0tb, rfl⟩ := (ho.at_ 0 rfl).shape3
     obtain ⟨A1tb, n1tb, c1tb, rfl⟩ := (ho.at_ 1 rfl).shape3
     obtain ⟨A2tb, n2tb, c2tb, rfl⟩ := (ho.at_ 2 rfl).shape3
     obtain ⟨A3tb, n3tb, c3tb, rfl⟩ := (ho.at_ 3 rfl).shape3
     obtain ⟨A4tb, n4tb, c4tb, rfl⟩ := (ho.at_ 4 rfl).shape3
     obtain ⟨A5tb, n5tb, c5tb, rfl⟩ := (ho.at_ 5 rfl).shape3
     replace SS := Lib.hid (SS.out.rows ho hb)
     clear ho hb
     refine hK.out _ _ (mkS_4 _ _ _ SS.out) (fun hH => ?_)
     clear hK K
     try simp only [pm, s0, sS]
     refine wpAnyH_ready (rs := [4]) (by kernel_rfl) (by simp) ?_
     refine AllReadyH.cons (o := ⟨some 35,.call { callee := .value (.func 6),args := #[.tmp 32,.tmp 34],argTypes := #[34,34] },35,"exact.go:4535",#[⟨1,.data⟩,⟨3,.data⟩,⟨3,.chain⟩],none⟩) rfl ?_ ?_
     intro K hK
     go_simp
     go_at_call 6
     refine (HS.out (.slice A0ta n0ta c0ta) (.slice A1ta n1ta c1ta) (.slice A2ta n2ta c2ta) (.slice A3ta n3ta c3ta) (.slice A4ta n4ta c4ta) (.slice A5ta n5ta c5ta) (.slice A0tb n0tb c0tb) (.slice A1tb n1tb c1tb) (.slice A2tb n2tb c2tb) (.slice A3tb n3tb c3tb) (.slice A4tb n4tb c4tb) (.slice A5tb n5tb c5tb) _ (SS.out.lk 1 rfl) (SS.out.lk 0 rfl)).mono ?_
     rintro e wc_9 ⟨v0_w, v1_w, v2_w, v3_w, v4_w, v5_w, v6_w, v7_w, rfl, ho, hb⟩
     obtain ⟨A0w, n0w, c0w, rfl⟩ := (ho.at_ 0 rfl).shape3
     obtain ⟨A1w, n1w, c1w, rfl⟩ := (ho.at_ 1 rfl).shape3
     obtain ⟨A2w, n2w, c2w, rfl⟩ := (ho.at_ 2 rfl).shape3
     obtain ⟨A3w, n3w, c3w, rfl⟩ := (ho.at_ 3 rfl).shape3
     obtain ⟨A4w, n4w, c4w, rfl⟩ := (ho.at_ 4 rfl).shape3
     obtain ⟨A5w, n5w, c5w, rfl⟩ := (ho.at_ 5 rfl).shape3
     obtain ⟨A6w, n6w, c6w, rfl⟩ := (ho.at_ 6 rfl).shape3
     obtain ⟨A7w, n7w, c7w, rfl⟩ := (ho.at_ 7 rfl).shape3
     replace SS := Lib.hid (SS.out.rows ho hb)
     clear ho hb
     refine hK.out _ _ (mkS_4 _ _ _ SS.out) (fun hH => ?_)
     clear hK K
     try simp only [pm, s0, sS]
     refine tkH 5 ?_ ⟨some 30,.move (.tmp 35),35,"exact.go:4535",#[⟨4,.data⟩],none⟩ ?_ ?_
     rotate_left
     · intro w9 hS; (try dsimp only at hS); go_simp; try with_reducible rfl
     try simp only [pm, s0, sS]
     refine tkH 6 ?_ ⟨some 36,.extract (.tmp 30) 0,34,"exact.go:4535",#[⟨5,.data⟩],none⟩ ?_ ?_
     rotate_left
     · intro w9 hS; (try dsimp only at hS); go_simp; try with_reducible rfl
     try simp only [pm, s0, sS]
     refine tkH 7 ?_ ⟨some 37,.extract (.tmp 30) 1,32,"exact.go:4535",#[⟨5,.data⟩,⟨11,.gcOnly .lateStores⟩],none⟩ ?_ ?_
     rotate_left
     · intro w9 hS; (try dsimp only at hS); go_simp; try with_reducible rfl
     try simp only [pm, s0, sS]
     refine tkH 8 ?_ ⟨some 38,.extract (.tmp 30) 2,4,"exact.go:4535",#[⟨5,.data⟩,⟨12,.gcOnly .lateStores⟩],none⟩ ?_ ?_
     rotate_left
     · intro w9 hS; (try dsimp only at hS); go_simp; try with_reducible rfl
     try simp only [pm, s0, sS]
     clear hH
     revert SS; revert wc_9; revert bkE; revert bkL; revert A0w n0w c0w A1w n1w c1w A2w n2w c2w A3w n3w c3w A4w n4w c4w A5w n5w c5w A6w n6w c6w A7w n7w c7w; revert A0tb n0tb c0tb A1tb n1tb c1tb A2tb n2tb c2tb A3tb n3tb c3tb A4tb n4tb c4tb A5tb n5tb c5tb; revert A0ta n0ta c0ta A1ta n1ta c1ta A2ta n2ta c2ta A3ta n3ta c3ta A4ta n4ta c4ta A5ta n5ta c5ta
     exact FIN trivial
     exact AllReadyH.nil
     exact AllReadyH.nil
     exact AllReadyH.nil
     refine AllReadyH.cons (o := ⟨some 7,.alloc 32,0,"exact.go:4535",#[],none⟩) rfl ?_ ?_
     intro K hK
     go_simp
     replace SS := Lib.hid (SS.out.allocE [.bool false,.slice none 0 0,.slice none 0 0] 32)
     simp only [List.cons_append, List.nil_append] at SS
     generalize hbk : Array.size (World.heap wc_0) = bkE at SS ⊢
     clear hbk
     generalize hwa : World.alloc _ _ = waE at SS ⊢
     clear hwa
     refine hK.out _ _ (mkS_4 _ _ _ SS.out) (fun hH => ?_)
     clear hK K
     try simp only [pm, s0, sS]
     refine wpAnyH_ready (rs := [3, 9]) (by kernel_rfl) (by simp) ?_
     refine AllReadyH.cons (o := ⟨some 34,.call { callee := .value (.func 7),args := #[.tmp 33],argTypes := #[28] },34,"exact.go:4535",#[⟨2,.data⟩,⟨1,.chain⟩],none⟩) rfl ?_ ?_
     intro K hK
     go_simp
     go_at_call_of 7 (Value.agg #[Value.int .i64 A1,Value.int .i64 B1,Value.bool P1.s,p10,p11,Value.bool Q1.s,q10,q11,Value.bool R1.s,r10,r11])
     refine (toLink_f A1 B1 P1 Q1 R1 p10 p11 q10 q11 r10 r11 _ (SS.out.lkI HA1.out) HL1.out).mono ?_
     rintro e wc_1 ⟨v0_tb, v1_tb, v2_tb, v3_tb, v4_tb, v5_tb, rfl, ho, hb⟩
     obtain ⟨A0tb, n0tb, c0tb, rfl⟩ := (ho.at_ 0 rfl).shape3
     obtain ⟨A1tb, n1tb, c1tb, rfl⟩ := (ho.at_ 1 rfl).shape3
     obtain ⟨A2tb, n2tb, c2tb, rfl⟩ := (ho.at_ 2 rfl).shape3
     obtain ⟨A3tb, n3tb, c3tb, rfl⟩ := (ho.at_ 3 rfl).shape3
     obtain ⟨A4tb, n4tb, c4tb, rfl⟩ := (ho.at_ 4 rfl).shape3
     obtain ⟨A5tb, n5tb, c5tb, rfl⟩ := (ho.at_ 5 rfl).shape3
     replace SS := Lib.hid (SS.out.rows ho hb)
     clear ho hb
     refine hK.out _ _ (mkS_4 _ _ _ SS.out) (fun hH => ?_)
     clear hK K
     try simp only [pm, s0, sS]
     refine wpAnyH_ready (rs := [4, 9]) (by kernel_rfl) (by simp) ?_
     refine AllReadyH.cons (o := ⟨some 35,.call { callee := .value (.func 6),args := #[.tmp 32,.tmp 34],argTypes := #[34,34] },35,"exact.go:4535",#[⟨1,.data⟩,⟨3,.data⟩,⟨3,.chain⟩],none⟩) rfl ?_ ?_
     intro K hK
     go_simp
     go_at_call 6
     refine (HS.out (.slice A0ta n0ta c0ta) (.slice A1ta n1ta c1ta) (.slice A2ta n2ta c2ta) (.slice A3ta n3ta c3ta) (.slice A4ta n4ta c4ta) (.slice A5ta n5ta c5ta) (.slice A0tb n0tb c0tb) (.slice A1tb n1tb c1tb) (.slice A2tb n2tb c2tb) (.slice A3tb n3tb c3tb) (.slice A4tb n4tb c4tb) (.slice A5tb n5tb c5tb) _ (SS.out.lk 1 rfl) (SS.out.lk 0 rfl)).mono ?_
     rintro e wc_9 ⟨v0_w, v1_w, v2_w, v3_w, v4_w, v5_w, v6_w, v7_w, rfl, ho, hb⟩
     obtain ⟨A0w, n0w, c0w, rfl⟩ := (ho.at_ 0 rfl).shape3
     obtain ⟨A1w, n1w, c1w, rfl⟩ := (ho.at_ 1 rfl).shape3
     obtain ⟨A2w, n2w, c2w, rfl⟩ := (ho.at_ 2 rfl).shape3
     obtain ⟨A3w, n3w, c3w, rfl⟩ := (ho.at_ 3 rfl).shape3
     obtain ⟨A4w, n4w, c4w, rfl⟩ := (ho.at_ 4 rfl).shape3
     obtain ⟨A5w, n5w, c5w, rfl⟩ := (ho.at_ 5 rfl).shape3
     obtain ⟨A6w, n6w, c6w, rfl⟩ := (ho.at_ 6 rfl).shape3
     obtain ⟨A7w, n7w, c7w, rfl⟩ := (ho.at_ 7 rfl).shape3
     replace SS := Lib.hid (SS.out.rows ho hb)
     clear ho hb
     refine hK.out _ _ (mkS_4 _ _ _ SS.out) (fun hH => ?_)
     clear hK K
     try simp only [pm, s0, sS]
     refine tkH 5 ?_ ⟨some 30,.move (.tmp 35),35,"exact.go:4535",#[⟨4,.data⟩],none⟩ ?_ ?_
     rotate_left
     · intro w9 hS; (try dsimp only at hS); go_simp; try with_reducible rfl
     try simp only [pm, s0, sS]
     refine tkH 6 ?_ ⟨some 36,.extract (.tmp 30) 0,34,"exact.go:4535",#[⟨5,.data⟩],none⟩ ?_ ?_
     rotate_left
     · intro w9 hS; (try dsimp only at hS); go_simp; try with_reducible rfl
     try simp only [pm, s0, sS]
     refine tkH 7 ?_ ⟨some 37,.extract (.tmp 30) 1,32,"exact.go:4535",#[⟨5,.data⟩,⟨11,.gcOnly .lateStores⟩],none⟩ ?_ ?_
     rotate_left
     · intro w9 hS; (try dsimp only at hS); go_simp; try with_reducible rfl
     try simp only [pm, s0, sS]
     refine tkH 8 ?_ ⟨some 38,.extract (.tmp 30) 2,4,"exact.go:4535",#[⟨5,.data⟩,⟨12,.gcOnly .lateStores⟩],none⟩ ?_ ?_
     rotate_left
     · intro w9 hS; (try dsimp only at hS); go_simp; try with_reducible rfl
     try simp only [pm, s0, sS]
     refine wpAnyH_ready (rs := [9]) (by kernel_rfl) (by simp) ?_
     refine AllReadyH.cons (o := ⟨some 6,.alloc 34,0,"exact.go:4535",#[],none⟩) rfl ?_ ?_
     intro K hK
     go_simp
     replace SS := Lib.hid (SS.out.allocE [.int .i64 0,.int .i64 0,.bool false,.slice none 0 0,.slice none 0 0,.bool false,.slice none 0 0,.slice none 0 0,.bool false,.slice none 0 0,.slice none 0 0] 34)
     simp only [List.cons_append, List.nil_append] at SS
     generalize hbk : Array.size (World.heap wc_9) = bkL at SS ⊢
     clear hbk
     generalize hwa : World.alloc _ _ = waL at SS ⊢
     clear hwa
     refine hK.out _ _ (mkS_4 _ _ _ SS.out) (fun hH => ?_)
     clear hK K
     try simp only [pm, s0, sS]
     replace SS := Lib.hid (SS.out.perm (List.Perm.cons _ (List.Perm.cons _ (List.Perm.swap _ _ _))) (List.Perm.refl _))
     clear hH
     revert SS; revert waL; revert bkE; revert bkL; revert A0w n0w c0w A1w n1w c1w A2w n2w c2w A3w n3w c3w A4w n4w c4w A5w n5w c5w A6w n6w c6w A7w n7w c7w; revert A0tb n0tb c0tb A1tb n1tb c1tb A2tb n2tb c2tb A3tb n3tb c3tb A4tb n4tb c4tb A5tb n5tb c5tb; revert A0ta n0ta c0ta A1ta n1ta c1ta A2ta n2ta c2ta A3ta n3ta c3ta A4ta n4ta c4ta A5ta n5ta c5ta
     exact FIN trivial
     exact AllReadyH.nil
     refine AllReadyH.cons (o := ⟨some 6,.alloc 34,0,"exact.go:4535",#[],none⟩) rfl ?_ ?_
     intro K hK
     go_simp
     replace SS := Lib.hid (SS.out.allocE [.int .i64 0,.int .i64 0,.bool false,.slice none 0 0,.slice none 0 0,.bool false,.slice none 0 0,.slice none 0 0,.bool false,.slice none 0 0,.slice none 0 0] 34)
     simp only [List.cons_append, List.nil_append] at SS
     generalize hbk : Array.size (World.heap wc_1) = bkL at SS ⊢
     clear hbk
     generalize hwa : World.alloc _ _ = waL at SS ⊢
     clear hwa
     refine hK.out _ _ (mkS_4 _ _ _ SS.out) (fun hH => ?_)
     clear hK K
     try simp only [pm, s0, sS]
     refine wpAnyH_ready (rs := [4]) (by kernel_rfl) (by simp) ?_
     refine AllReadyH.cons (o := ⟨some 35,.call { callee := .value (.func 6),args := #[.tmp 32,.tmp 34],argTypes := #[34,34] },35,"exact.go:4535",#[⟨1,.data⟩,⟨3,.data⟩,⟨3,.chain⟩],none⟩) rfl ?_ ?_
     intro K hK
     go_simp
     go_at_call 6
     refine (HS.out (.slice A0ta n0ta c0ta) (.slice A1ta n1ta c1ta) (.slice A2ta n2ta c2ta) (.slice A3ta n3ta c3ta) (.slice A4ta n4ta c4ta) (.slice A5ta n5ta c5ta) (.slice A0tb n0tb c0tb) (.slice A1tb n1tb c1tb) (.slice A2tb n2tb c2tb) (.slice A3tb n3tb c3tb) (.slice A4tb n4tb c4tb) (.slice A5tb n5tb c5tb) _ (SS.out.lk 1 rfl) (SS.out.lk 0 rfl)).mono ?_
     rintro e wc_9 ⟨v0_w, v1_w, v2_w, v3_w, v4_w, v5_w, v6_w, v7_w, rfl, ho, hb⟩
     obtain ⟨A0w, n0w, c0w, rfl⟩ := (ho.at_ 0 rfl).shape3
     obtain ⟨A1w, n1w, c1w, rfl⟩ := (ho.at_ 1 rfl).shape3
     obtain ⟨A2w, n2w, c2w, rfl⟩ := (ho.at_ 2 rfl).shape3
     obtain ⟨A3w, n3w, c3w, rfl⟩ := (ho.at_ 3 rfl).shape3
     obtain ⟨A4w, n4w, c4w, rfl⟩ := (ho.at_ 4 rfl).shape3
     obtain ⟨A5w, n5w, c5w, rfl⟩ := (ho.at_ 5 rfl).shape3
     obtain ⟨A6w, n6w, c6w, rfl⟩ := (ho.at_ 6 rfl).shape3
     obtain ⟨A7w, n7w, c7w, rfl⟩ := (ho.at_ 7 rfl).shape3
     replace SS := Lib.hid (SS.out.rows ho hb)
     clear ho hb
     refine hK.out _ _ (mkS_4 _ _ _ SS.out) (fun hH => ?_)
     clear hK K
     try simp only [pm, s0, sS]
     refine tkH 5 ?_ ⟨some 30,.move (.tmp 35),35,"exact.go:4535",#[⟨4,.data⟩],none⟩ ?_ ?_
     rotate_left
     · intro w9 hS; (try dsimp only at hS); go_simp; try with_reducible rfl
     try simp only [pm, s0, sS]
     refine tkH 6 ?_ ⟨some 36,.extract (.tmp 30) 0,34,"exact.go:4535",#[⟨5,.data⟩],none⟩ ?_ ?_
     rotate_left
     · intro w9 hS; (try dsimp only at hS); go_simp; try with_reducible rfl
     try simp only [pm, s0, sS]
     refine tkH 7 ?_ ⟨some 37,.extract (.tmp 30) 1,32,"exact.go:4535",#[⟨5,.data⟩,⟨11,.gcOnly .lateStores⟩],none⟩ ?_ ?_
     rotate_left
     · intro w9 hS; (try dsimp only at hS); go_simp; try with_reducible rfl
     try simp only [pm, s0, sS]
     refine tkH 8 ?_ ⟨some 38,.extract (.tmp 30) 2,4,"exact.go:4535",#[⟨5,.data⟩,⟨12,.gcOnly .lateStores⟩],none⟩ ?_ ?_
     rotate_left
     · intro w9 hS; (try dsimp only at hS); go_simp; try with_reducible rfl
     try simp only [pm, s0, sS]
     replace SS := Lib.hid (SS.out.perm (List.Perm.cons _ (List.Perm.cons _ (List.Perm.swap _ _ _))) (List.Perm.refl _))
     clear hH
     revert SS; revert wc_9; revert bkE; revert bkL; revert A0w n0w c0w A1w n1w c1w A2w n2w c2w A3w n3w c3w A4w n4w c4w A5w n5w c5w A6w n6w c6w A7w n7w c7w; revert A0tb n0tb c0tb A1tb n1tb c1tb A2tb n2tb c2tb A3tb n3tb c3tb A4tb n4tb c4tb A5tb n5tb c5tb; revert A0ta n0ta c0ta A1ta n1ta c1ta A2ta n2ta c2ta A3ta n3ta c3ta A4ta n4ta c4ta A5ta n5ta c5ta
     exact FIN trivial
     exact AllReadyH.nil
     exact AllReadyH.nil
     refine AllReadyH.cons (o := ⟨some 6,.alloc 34,0,"exact.go:4535",#[],none⟩) rfl ?_ ?_
     intro K hK
     go_simp
     replace SS := Lib.hid (SS.out.allocE [.int .i64 0,.int .i64 0,.bool false,.slice none 0 0,.slice none 0 0,.bool false,.slice none 0 0,.slice none 0 0,.bool false,.slice none 0 0,.slice none 0 0] 34)
     simp only [List.cons_append, List.nil_append] at SS
     generalize hbk : Array.size (World.heap waE) = bkL at SS ⊢
     clear hbk
     generalize hwa : World.alloc _ _ = waL at SS ⊢
     clear hwa
     refine hK.out _ _ (mkS_4 _ _ _ SS.out) (fun hH => ?_)
     clear hK K
     try simp only [pm, s0, sS]
     refine wpAnyH_ready (rs := [3]) (by kernel_rfl) (by simp) ?_
     refine AllReadyH.cons (o := ⟨some 34,.call { callee := .value (.func 7),args := #[.tmp 33],argTypes := #[28] },34,"exact.go:4535",#[⟨2,.data⟩,⟨1,.chain⟩],none⟩) rfl ?_ ?_
     intro K hK
     go_simp
     go_at_call_of 7 (Value.agg #[Value.int .i64 A1,Value.int .i64 B1,Value.bool P1.s,p10,p11,Value.bool Q1.s,q10,q11,Value.bool R1.s,r10,r11])
     refine (toLink_f A1 B1 P1 Q1 R1 p10 p11 q10 q11 r10 r11 _ (SS.out.lkI HA1.out) HL1.out).mono ?_
     rintro e wc_1 ⟨v0_tb, v1_tb, v2_tb, v3_tb, v4_tb, v5_tb, rfl, ho, hb⟩
     obtain ⟨A0tb, n0tb, c0tb, rfl⟩ := (ho.at_ 0 rfl).shape3
     obtain ⟨A1tb, n1tb, c1tb, rfl⟩ := (ho.at_ 1 rfl).shape3
     obtain ⟨A2tb, n2tb, c2tb, rfl⟩ := (ho.at_ 2 rfl).shape3
     obtain ⟨A3tb, n3tb, c3tb, rfl⟩ := (ho.at_ 3 rfl).shape3
     obtain ⟨A4tb, n4tb, c4tb, rfl⟩ := (ho.at_ 4 rfl).shape3
     obtain ⟨A5tb, n5tb, c5tb, rfl⟩ := (ho.at_ 5 rfl).shape3
     replace SS := Lib.hid (SS.out.rows ho hb)
     clear ho hb
     refine hK.out _ _ (mkS_4 _ _ _ SS.out) (fun hH => ?_)
     clear hK K
     try simp only [pm, s0, sS]
     refine wpAnyH_ready (rs := [4]) (by kernel_rfl) (by simp) ?_
     refine AllReadyH.cons (o := ⟨some 35,.call { callee := .value (.func 6),args := #[.tmp 32,.tmp 34],argTypes := #[34,34] },35,"exact.go:4535",#[⟨1,.data⟩,⟨3,.data⟩,⟨3,.chain⟩],none⟩) rfl ?_ ?_
     intro K hK
     go_simp
     go_at_call 6
     refine (HS.out (.slice A0ta n0ta c0ta) (.slice A1ta n1ta c1ta) (.slice A2ta n2ta c2ta) (.slice A3ta n3ta c3ta) (.slice A4ta n4ta c4ta) (.slice A5ta n5ta c5ta) (.slice A0tb n0tb c0tb) (.slice A1tb n1tb c1tb) (.slice A2tb n2tb c2tb) (.slice A3tb n3tb c3tb) (.slice A4tb n4tb c4tb) (.slice A5tb n5tb c5tb) _ (SS.out.lk 1 rfl) (SS.out.lk 0 rfl)).mono ?_
     rintro e wc_9 ⟨v0_w, v1_w, v2_w, v3_w, v4_w, v5_w, v6_w, v7_w, rfl, ho, hb⟩
     obtain ⟨A0w, n0w, c0w, rfl⟩ := (ho.at_ 0 rfl).shape3
     obtain ⟨A1w, n1w, c1w, rfl⟩ := (ho.at_ 1 rfl).shape3
     obtain ⟨A2w, n2w, c2w, rfl⟩ := (ho.at_ 2 rfl).shape3
     obtain ⟨A3w, n3w, c3w, rfl⟩ := (ho.at_ 3 rfl).shape3
     obtain ⟨A4w, n4w, c4w, rfl⟩ := (ho.at_ 4 rfl).shape3
     obtain ⟨A5w, n5w, c5w, rfl⟩ := (ho.at_ 5 rfl).shape3
     obtain ⟨A6w, n6w, c6w, rfl⟩ := (ho.at_ 6 rfl).shape3
     obtain ⟨A7w, n7w, c7w, rfl⟩ := (ho.at_ 7 rfl).shape3
     replace SS := Lib.hid (SS.out.rows ho hb)
     clear ho hb
     refine hK.out _ _ (mkS_4 _ _ _ SS.out) (fun hH => ?_)
     clear hK K
     try simp only [pm, s0, sS]
     refine tkH 5 ?_ ⟨some 30,.move (.tmp 35),35,"exact.go:4535",#[⟨4,.data⟩],none⟩ ?_ ?_
     rotate_left
     · intro w9 hS; (try dsimp only at hS); go_simp; try with_reducible rfl
     try simp only [pm, s0, sS]
     refine tkH 6 ?_ ⟨some 36,.extract (.tmp 30) 0,34,"exact.go:4535",#[⟨5,.data⟩],none⟩ ?_ ?_
     rotate_left
     · intro w9 hS; (try dsimp only at hS); go_simp; try with_reducible rfl
     try simp only [pm, s0, sS]
     refine tkH 7 ?_ ⟨some 37,.extract (.tmp 30) 1,32,"exact.go:4535",#[⟨5,.data⟩,⟨11,.gcOnly .lateStores⟩],none⟩ ?_ ?_
     rotate_left
     · intro w9 hS; (try dsimp only at hS); go_simp; try with_reducible rfl
     try simp only [pm, s0, sS]
     refine tkH 8 ?_ ⟨some 38,.extract (.tmp 30) 2,4,"exact.go:4535",#[⟨5,.data⟩,⟨12,.gcOnly .lateStores⟩],none⟩ ?_ ?_
     rotate_left
     · intro w9 hS; (try dsimp only at hS); go_simp; try with_reducible rfl
     try simp only [pm, s0, sS]
     replace SS := Lib.hid (SS.out.perm (List.Perm.cons _ (List.Perm.cons _ (List.Perm.swap _ _ _))) (List.Perm.refl _))
     clear hH
     revert SS; revert wc_9; revert bkE; revert bkL; revert A0w n0w c0w A1w n1w c1w A2w n2w c2w A3w n3w c3w A4w n4w c4w A5w n5w c5w A6w n6w c6w A7w n7w c7w; revert A0tb n0tb c0tb A1tb n1tb c1tb A2tb n2tb c2tb A3tb n3tb c3tb A4tb n4tb c4tb A5tb n5tb c5tb; revert A0ta n0ta c0ta A1ta n1ta c1ta A2ta n2ta c2ta A3ta n3ta c3ta A4ta n4ta c4ta A5ta n5ta c5ta
     exact FIN trivial
     exact AllReadyH.nil
     exact AllReadyH.nil
     exact AllReadyH.nil
     exact AllReadyH.nil
     refine AllReadyH.cons (o := ⟨some 6,.alloc 34,0,"exact.go:4535",#[],none⟩) rfl ?_ ?_
     intro K hK
     go_simp
     replace SS := Lib.hid (SS.out.allocE [.int .i64 0,.int .i64 0,.bool false,.slice none 0 0,.slice none 0 0,.bool false,.slice none 0 0,.slice none 0 0,.bool false,.slice none 0 0,.slice none 0 0] 34)
     simp only [List.cons_append, List.nil_append] at SS
     generalize hbk : Array.size (World.heap wd) = bkL at SS ⊢
     clear hbk
     generalize hwa : World.alloc _ _ = waL at SS ⊢
     clear hwa
     refine hK.out _ _ (mkS_4 _ _ _ SS.out) (fun hH => ?_)
     clear hK K
     try simp only [pm, s0, sS]
     refine wpAnyH_ready (rs := [1, 10]) (by kernel_rfl) (by simp) ?_
     refine AllReadyH.cons (o := ⟨some 32,.call { callee := .value (.func 7),args := #[.tmp 31],argTypes := #[28] },34,"exact.go:4535",#[⟨0,.data⟩],none⟩) rfl ?_ ?_
     intro K hK
     go_simp
     go_at_call_of 7 (Value.agg #[Value.int .i64 A0,Value.int .i64 B0,Value.bool P0.s,p00,p01,Value.bool Q0.s,q00,q01,Value.bool R0.s,r00,r01])
     refine (toLink_f A0 B0 P0 Q0 R0 p00 p01 q00 q01 r00 r01 _ (SS.out.lkI HA0.out) HL0.out).mono ?_
     rintro e wc_0 ⟨v0_ta, v1_ta, v2_ta, v3_ta, v4_ta, v5_ta, rfl, ho, hb⟩
     obtain ⟨A0ta, n0ta, c0ta, rfl⟩ := (ho.at_ 0 rfl).shape3
     obtain ⟨A1ta, n1ta, c1ta, rfl⟩ := (ho.at_ 1 rfl).shape3
     obtain ⟨A2ta, n2ta, c2ta, rfl⟩ := (ho.at_ 2 rfl).shape3
     obtain ⟨A3ta, n3ta, c3ta, rfl⟩ := (ho.at_ 3 rfl).shape3
     obtain ⟨A4ta, n4ta, c4ta, rfl⟩ := (ho.at_ 4 rfl).shape3
     obtain ⟨A5ta, n5ta, c5ta, rfl⟩ := (ho.at_ 5 rfl).shape3
     replace SS := Lib.hid (SS.out.rows ho hb)
     clear ho hb
     refine hK.out _ _ (mkS_4 _ _ _ SS.out) (fun hH => ?_)
     clear hK K
     try simp only [pm, s0, sS]
     refine wpAnyH_ready (rs := [3, 10]) (by kernel_rfl) (by simp) ?_
     refine AllReadyH.cons (o := ⟨some 34,.call { callee := .value (.func 7),args := #[.tmp 33],argTypes := #[28] },34,"exact.go:4535",#[⟨2,.data⟩,⟨1,.chain⟩],none⟩) rfl ?_ ?_
     intro K hK
     go_simp
     go_at_call_of 7 (Value.agg #[Value.int .i64 A1,Value.int .i64 B1,Value.bool P1.s,p10,p11,Value.bool Q1.s,q10,q11,Value.bool R1.s,r10,r11])
     refine (toLink_f A1 B1 P1 Q1 R1 p10 p11 q10 q11 r10 r11 _ (SS.out.lkI HA1.out) HL1.out).mono ?_
     rintro e wc_1 ⟨v0_tb, v1_tb, v2_tb, v3_tb, v4_tb, v5_tb, rfl, ho, hb⟩
     obtain ⟨A0tb, n0tb, c0tb, rfl⟩ := (ho.at_ 0 rfl).shape3
     obtain ⟨A1tb, n1tb, c1tb, rfl⟩ := (ho.at_ 1 rfl).shape3
     obtain ⟨A2tb, n2tb, c2tb, rfl⟩ := (ho.at_ 2 rfl).shape3
     obtain ⟨A3tb, n3tb, c3tb, rfl⟩ := (ho.at_ 3 rfl).shape3
     obtain ⟨A4tb, n4tb, c4tb, rfl⟩ := (ho.at_ 4 rfl).shape3
     obtain ⟨A5tb, n5tb, c5tb, rfl⟩ := (ho.at_ 5 rfl).shape3
     replace SS := Lib.hid (SS.out.rows ho hb)
     clear ho hb
     refine hK.out _ _ (mkS_4 _ _ _ SS.out) (fun hH => ?_)
     clear hK K
     try simp only [pm, s0, sS]
     refine wpAnyH_ready (rs := [4, 10]) (by kernel_rfl) (by simp) ?_
     refine AllReadyH.cons (o := ⟨some 35,.call { callee := .value (.func 6),args := #[.tmp 32,.tmp 34],argTypes := #[34,34] },35,"exact.go:4535",#[⟨1,.data⟩,⟨3,.data⟩,⟨3,.chain⟩],none⟩) rfl ?_ ?_
     intro K hK
     go_simp
     go_at_call 6
     refine (HS.out (.slice A0ta n0ta c0ta) (.slice A1ta n1ta c1ta) (.slice A2ta n2ta c2ta) (.slice A3ta n3ta c3ta) (.slice A4ta n4ta c4ta) (.slice A5ta n5ta c5ta) (.slice A0tb n0tb c0tb) (.slice A1tb n1tb c1tb) (.slice A2tb n2tb c2tb) (.slice A3tb n3tb c3tb) (.slice A4tb n4tb c4tb) (.slice A5tb n5tb c5tb) _ (SS.out.lk 1 rfl) (SS.out.lk 0 rfl)).mono ?_
     rintro e wc_9 ⟨v0_w, v1_w, v2_w, v3_w, v4_w, v5_w, v6_w, v7_w, rfl, ho, hb⟩
     obtain ⟨A0w, n0w, c0w, rfl⟩ := (ho.at_ 0 rfl).shape3
     obtain ⟨A1w, n1w, c1w, rfl⟩ := (ho.at_ 1 rfl).shape3
     obtain ⟨A2w, n2w, c2w, rfl⟩ := (ho.at_ 2 rfl).shape3
     obtain ⟨A3w, n3w, c3w, rfl⟩ := (ho.at_ 3 rfl).shape3
     obtain ⟨A4w, n4w, c4w, rfl⟩ := (ho.at_ 4 rfl).shape3
     obtain ⟨A5w, n5w, c5w, rfl⟩ := (ho.at_ 5 rfl).shape3
     obtain ⟨A6w, n6w, c6w, rfl⟩ := (ho.at_ 6 rfl).shape3
     obtain ⟨A7w, n7w, c7w, rfl⟩ := (ho.at_ 7 rfl).shape3
     replace SS := Lib.hid (SS.out.rows ho hb)
     clear ho hb
     refine hK.out _ _ (mkS_4 _ _ _ SS.out) (fun hH => ?_)
     clear hK K
     try simp only [pm, s0, sS]
     refine tkH 5 ?_ ⟨some 30,.move (.tmp 35),35,"exact.go:4535",#[⟨4,.data⟩],none⟩ ?_ ?_
     rotate_left
     · intro w9 hS; (try dsimp only at hS); go_simp; try with_reducible rfl
     try simp only [pm, s0, sS]
     refine tkH 6 ?_ ⟨some 36,.extract (.tmp 30) 0,34,"exact.go:4535",#[⟨5,.data⟩],none⟩ ?_ ?_
     rotate_left
     · intro w9 hS; (try dsimp only at hS); go_simp; try with_reducible rfl
     try simp only [pm, s0, sS]
     refine tkH 7 ?_ ⟨some 37,.extract (.tmp 30) 1,32,"exact.go:4535",#[⟨5,.data⟩,⟨11,.gcOnly .lateStores⟩],none⟩ ?_ ?_
     rotate_left
     · intro w9 hS; (try dsimp only at hS); go_simp; try with_reducible rfl
     try simp only [pm, s0, sS]
     refine tkH 8 ?_ ⟨some 38,.extract (.tmp 30) 2,4,"exact.go:4535",#[⟨5,.data⟩,⟨12,.gcOnly .lateStores⟩],none⟩ ?_ ?_
     rotate_left
     · intro w9 hS; (try dsimp only at hS); go_simp; try with_reducible rfl
     try simp only [pm, s0, sS]
     refine wpAnyH_ready (rs := [10]) (by kernel_rfl) (by simp) ?_
     refine AllReadyH.cons (o := ⟨some 7,.alloc 32,0,"exact.go:4535",#[],none⟩) rfl ?_ ?_
     intro K hK
     go_simp
     replace SS := Lib.hid (SS.out.allocE [.bool false,.slice none 0 0,.slice none 0 0] 32)
     simp only [List.cons_append, List.nil_append] at SS
     generalize hbk : Array.size (World.heap wc_9) = bkE at SS ⊢
     clear hbk
     generalize hwa : World.alloc _ _ = waE at SS ⊢
     clear hwa
     refine hK.out _ _ (mkS_4 _ _ _ SS.out) (fun hH => ?_)
     clear hK K
     try simp only [pm, s0, sS]
     clear hH
     revert SS; revert waE; revert bkE; revert bkL; revert A0w n0w c0w A1w n1w c1w A2w n2w c2w A3w n3w c3w A4w n4w c4w A5w n5w c5w A6w n6w c6w A7w n7w c7w; revert A0tb n0tb c0tb A1tb n1tb c1tb A2tb n2tb c2tb A3tb n3tb c3tb A4tb n4tb c4tb A5tb n5tb c5tb; revert A0ta n0ta c0ta A1ta n1ta c1ta A2ta n2ta c2ta A3ta n3ta c3ta A4ta n4ta c4ta A5ta n5ta c5ta
     exact FIN trivial
     exact AllReadyH.nil
     refine AllReadyH.cons (o := ⟨some 7,.alloc 32,0,"exact.go:4535",#[],none⟩) rfl ?_ ?_
     intro K hK
     go_simp
     replace SS := Lib.hid (SS.out.allocE [.bool false,.slice none 0 0,.slice none 0 0] 32)
     simp only [List.cons_append, List.nil_append] at SS
     generalize hbk : Array.size (World.heap wc_1) = bkE at SS ⊢
     clear hbk
     generalize hwa : World.alloc _ _ = waE at SS ⊢
     clear hwa
     refine hK.out _ _ (mkS_4 _ _ _ SS.out) (fun hH => ?_)
     clear hK K
     try simp only [pm, s0, sS]
     refine wpAnyH_ready (rs := [4]) (by kernel_rfl) (by simp) ?_
     refine AllReadyH.cons (o := ⟨some 35,.call { callee := .value (.func 6),args := #[.tmp 32,.tmp 34],argTypes := #[34,34] },35,"exact.go:4535",#[⟨1,.data⟩,⟨3,.data⟩,⟨3,.chain⟩],none⟩) rfl ?_ ?_
     intro K hK
     go_simp
     go_at_call 6
     refine (HS.out (.slice A0ta n0ta c0ta) (.slice A1ta n1ta c1ta) (.slice A2ta n2ta c2ta) (.slice A3ta n3ta c3ta) (.slice A4ta n4ta c4ta) (.slice A5ta n5ta c5ta) (.slice A0tb n0tb c0tb) (.slice A1tb n1tb c1tb) (.slice A2tb n2tb c2tb) (.slice A3tb n3tb c3tb) (.slice A4tb n4tb c4tb) (.slice A5tb n5tb c5tb) _ (SS.out.lk 1 rfl) (SS.out.lk 0 rfl)).mono ?_
     rintro e wc_9 ⟨v0_w, v1_w, v2_w, v3_w, v4_w, v5_w, v6_w, v7_w, rfl, ho, hb⟩
     obtain ⟨A0w, n0w, c0w, rfl⟩ := (ho.at_ 0 rfl).shape3
     obtain ⟨A1w, n1w, c1w, rfl⟩ := (ho.at_ 1 rfl).shape3
     obtain ⟨A2w, n2w, c2w, rfl⟩ := (ho.at_ 2 rfl).shape3
     obtain ⟨A3w, n3w, c3w, rfl⟩ := (ho.at_ 3 rfl).shape3
     obtain ⟨A4w, n4w, c4w, rfl⟩ := (ho.at_ 4 rfl).shape3
     obtain ⟨A5w, n5w, c5w, rfl⟩ := (ho.at_ 5 rfl).shape3
     obtain ⟨A6w, n6w, c6w, rfl⟩ := (ho.at_ 6 rfl).shape3
     obtain ⟨A7w, n7w, c7w, rfl⟩ := (ho.at_ 7 rfl).shape3
     replace SS := Lib.hid (SS.out.rows ho hb)
     clear ho hb
     refine hK.out _ _ (mkS_4 _ _ _ SS.out) (fun hH => ?_)
     clear hK K
     try simp only [pm, s0, sS]
     refine tkH 5 ?_ ⟨some 30,.move (.tmp 35),35,"exact.go:4535",#[⟨4,.data⟩],none⟩ ?_ ?_
     rotate_left
     · intro w9 hS; (try dsimp only at hS); go_simp; try with_reducible rfl
     try simp only [pm, s0, sS]
     refine tkH 6 ?_ ⟨some 36,.extract (.tmp 30) 0,34,"exact.go:4535",#[⟨5,.data⟩],none⟩ ?_ ?_
     rotate_left
     · intro w9 hS; (try dsimp only at hS); go_simp; try with_reducible rfl
     try simp only [pm, s0, sS]
     refine tkH 7 ?_ ⟨some 37,.extract (.tmp 30) 1,32,"exact.go:4535",#[⟨5,.data⟩,⟨11,.gcOnly .lateStores⟩],none⟩ ?_ ?_
     rotate_left
     · intro w9 hS; (try dsimp only at hS); go_simp; try with_reducible rfl
     try simp only [pm, s0, sS]
     refine tkH 8 ?_ ⟨some 38,.extract (.tmp 30) 2,4,"exact.go:4535",#[⟨5,.data⟩,⟨12,.gcOnly .lateStores⟩],none⟩ ?_ ?_
     rotate_left
     · intro w9 hS; (try dsimp only at hS); go_simp; try with_reducible rfl
     try simp only [pm, s0, sS]
     clear hH
     revert SS; revert wc_9; revert bkE; revert bkL; revert A0w n0w c0w A1w n1w c1w A2w n2w c2w A3w n3w c3w A4w n4w c4w A5w n5w c5w A6w n6w c6w A7w n7w c7w; revert A0tb n0tb c0tb A1tb n1tb c1tb A2tb n2tb c2tb A3tb n3tb c3tb A4tb n4tb c4tb A5tb n5tb c5tb; revert A0ta n0ta c0ta A1ta n1ta c1ta A2ta n2ta c2ta A3ta n3ta c3ta A4ta n4ta c4ta A5ta n5ta c5ta
     exact FIN trivial
     exact AllReadyH.nil
     exact AllReadyH.nil
     refine AllReadyH.cons (o := ⟨some 7,.alloc 32,0,"exact.go:4535",#[],none⟩) rfl ?_ ?_
     intro K hK
     go_simp
     replace SS := Lib.hid (SS.out.allocE [.bool false,.slice none 0 0,.slice none 0 0] 32)
     simp only [List.cons_append, List.nil_append] at SS
     generalize hbk : Array.size (World.heap wc_0) = bkE at SS ⊢
     clear hbk
     generalize hwa : World.alloc _ _ = waE at SS ⊢
     clear hwa
     refine hK.out _ _ (mkS_4 _ _ _ SS.out) (fun hH => ?_)
     clear hK K
     try simp only [pm, s0, sS]
     refine wpAnyH_ready (rs := [3]) (by kernel_rfl) (by simp) ?_
     refine AllReadyH.cons (o := ⟨some 34,.call { callee := .value (.func 7),args := #[.tmp 33],argTypes := #[28] },34,"exact.go:4535",#[⟨2,.data⟩,⟨1,.chain⟩],none⟩) rfl ?_ ?_
     intro K hK
     go_simp
     go_at_call_of 7 (Value.agg #[Value.int .i64 A1,Value.int .i64 B1,Value.bool P1.s,p10,p11,Value.bool Q1.s,q10,q11,Value.bool R1.s,r10,r11])
     refine (toLink_f A1 B1 P1 Q1 R1 p10 p11 q10 q11 r10 r11 _ (SS.out.lkI HA1.out) HL1.out).mono ?_
     rintro e wc_1 ⟨v0_tb, v1_tb, v2_tb, v3_tb, v4_tb, v5_tb, rfl, ho, hb⟩
     obtain ⟨A0tb, n0tb, c0tb, rfl⟩ := (ho.at_ 0 rfl).shape3
     obtain ⟨A1tb, n1tb, c1tb, rfl⟩ := (ho.at_ 1 rfl).shape3
     obtain ⟨A2tb, n2tb, c2tb, rfl⟩ := (ho.at_ 2 rfl).shape3
     obtain ⟨A3tb, n3tb, c3tb, rfl⟩ := (ho.at_ 3 rfl).shape3
     obtain ⟨A4tb, n4tb, c4tb, rfl⟩ := (ho.at_ 4 rfl).shape3
     obtain ⟨A5tb, n5tb, c5tb, rfl⟩ := (ho.at_ 5 rfl).shape3
     replace SS := Lib.hid (SS.out.rows ho hb)
     clear ho hb
     refine hK.out _ _ (mkS_4 _ _ _ SS.out) (fun hH => ?_)
     clear hK K
     try simp only [pm, s0, sS]
     refine wpAnyH_ready (rs := [4]) (by kernel_rfl) (by simp) ?_
     refine AllReadyH.cons (o := ⟨some 35,.call { callee := .value (.func 6),args := #[.tmp 32,.tmp 34],argTypes := #[34,34] },35,"exact.go:4535",#[⟨1,.data⟩,⟨3,.data⟩,⟨3,.chain⟩],none⟩) rfl ?_ ?_
     intro K hK
     go_simp
     go_at_call 6
     refine (HS.out (.slice A0ta n0ta c0ta) (.slice A1ta n1ta c1ta) (.slice A2ta n2ta c2ta) (.slice A3ta n3ta c3ta) (.slice A4ta n4ta c4ta) (.slice A5ta n5ta c5ta) (.slice A0tb n0tb c0tb) (.slice A1tb n1tb c1tb) (.slice A2tb n2tb c2tb) (.slice A3tb n3tb c3tb) (.slice A4tb n4tb c4tb) (.slice A5tb n5tb c5tb) _ (SS.out.lk 1 rfl) (SS.out.lk 0 rfl)).mono ?_
     rintro e wc_9 ⟨v0_w, v1_w, v2_w, v3_w, v4_w, v5_w, v6_w, v7_w, rfl, ho, hb⟩
     obtain ⟨A0w, n0w, c0w, rfl⟩ := (ho.at_ 0 rfl).shape3
     obtain ⟨A1w, n1w, c1w, rfl⟩ := (ho.at_ 1 rfl).shape3
     obtain ⟨A2w, n2w, c2w, rfl⟩ := (ho.at_ 2 rfl).shape3
     obtain ⟨A3w, n3w, c3w, rfl⟩ := (ho.at_ 3 rfl).shape3
     obtain ⟨A4w, n4w, c4w, rfl⟩ := (ho.at_ 4 rfl).shape3
     obtain ⟨A5w, n5w, c5w, rfl⟩ := (ho.at_ 5 rfl).shape3
     obtain ⟨A6w, n6w, c6w, rfl⟩ := (ho.at_ 6 rfl).shape3
     obtain ⟨A7w, n7w, c7w, rfl⟩ := (ho.at_ 7 rfl).shape3
     replace SS := Lib.hid (SS.out.rows ho hb)
     clear ho hb
     refine hK.out _ _ (mkS_4 _ _ _ SS.out) (fun hH => ?_)
     clear hK K
     try simp only [pm, s0, sS]
     refine tkH 5 ?_ ⟨some 30,.move (.tmp 35),35,"exact.go:4535",#[⟨4,.data⟩],none⟩ ?_ ?_
     rotate_left
     · intro w9 hS; (try dsimp only at hS); go_simp; try with_reducible rfl
     try simp only [pm, s0, sS]
     refine tkH 6 ?_ ⟨some 36,.extract (.tmp 30) 0,34,"exact.go:4535",#[⟨5,.data⟩],none⟩ ?_ ?_
     rotate_left
     · intro w9 hS; (try dsimp only at hS); go_simp; try with_reducible rfl
     try simp only [pm, s0, sS]
     refine tkH 7 ?_ ⟨some 37,.extract (.tmp 30) 1,32,"exact.go:4535",#[⟨5,.data⟩,⟨11,.gcOnly .lateStores⟩],none⟩ ?_ ?_
     rotate_left
     · intro w9 hS; (try dsimp only at hS); go_simp; try with_reducible rfl
     try simp only [pm, s0, sS]
     refine tkH 8 ?_ ⟨some 38,.extract (.tmp 30) 2,4,"exact.go:4535",#[⟨5,.data⟩,⟨12,.gcOnly .lateStores⟩],none⟩ ?_ ?_
     rotate_left
     · intro w9 hS; (try dsimp only at hS); go_simp; try with_reducible rfl
     try simp only [pm, s0, sS]
     clear hH
     revert SS; revert wc_9; revert bkE; revert bkL; revert A0w n0w c0w A1w n1w c1w A2w n2w c2w A3w n3w c3w A4w n4w c4w A5w n5w c5w A6w n6w c6w A7w n7w c7w; revert A0tb n0tb c0tb A1tb n1tb c1tb A2tb n2tb c2tb A3tb n3tb c3tb A4tb n4tb c4tb A5tb n5tb c5tb; revert A0ta n0ta c0ta A1ta n1ta c1ta A2ta n2ta c2ta A3ta n3ta c3ta A4ta n4ta c4ta A5ta n5ta c5ta
     exact FIN trivial
     exact AllReadyH.nil
     exact AllReadyH.nil
     exact AllReadyH.nil
     refine AllReadyH.cons (o := ⟨some 7,.alloc 32,0,"exact.go:4535",#[],none⟩) rfl ?_ ?_
     intro K hK
     go_simp
     replace SS := Lib.hid (SS.out.allocE [.bool false,.slice none 0 0,.slice none 0 0] 32)
     simp only [List.cons_append, List.nil_append] at SS
     generalize hbk : Array.size (World.heap waL) = bkE at SS ⊢
     clear hbk
     generalize hwa : World.alloc _ _ = waE at SS ⊢
     clear hwa
     refine hK.out _ _ (mkS_4 _ _ _ SS.out) (fun hH => ?_)
     clear hK K
     try simp only [pm, s0, sS]
     refine wpAnyH_ready (rs := [1]) (by kernel_rfl) (by simp) ?_
     refine AllReadyH.cons (o := ⟨some 32,.call { callee := .value (.func 7),args := #[.tmp 31],argTypes := #[28] },34,"exact.go:4535",#[⟨0,.data⟩],none⟩) rfl ?_ ?_
     intro K hK
     go_simp
     go_at_call_of 7 (Value.agg #[Value.int .i64 A0,Value.int .i64 B0,Value.bool P0.s,p00,p01,Value.bool Q0.s,q00,q01,Value.bool R0.s,r00,r01])
     refine (toLink_f A0 B0 P0 Q0 R0 p00 p01 q00 q01 r00 r01 _ (SS.out.lkI HA0.out) HL0.out).mono ?_
     rintro e wc_0 ⟨v0_ta, v1_ta, v2_ta, v3_ta, v4_ta, v5_ta, rfl, ho, hb⟩
     obtain ⟨A0ta, n0ta, c0ta, rfl⟩ := (ho.at_ 0 rfl).shape3
     obtain ⟨A1ta, n1ta, c1ta, rfl⟩ := (ho.at_ 1 rfl).shape3
     obtain ⟨A2ta, n2ta, c2ta, rfl⟩ := (ho.at_ 2 rfl).shape3
     obtain ⟨A3ta, n3ta, c3ta, rfl⟩ := (ho.at_ 3 rfl).shape3
     obtain ⟨A4ta, n4ta, c4ta, rfl⟩ := (ho.at_ 4 rfl).shape3
     obtain ⟨A5ta, n5ta, c5ta, rfl⟩ := (ho.at_ 5 rfl).shape3
     replace SS := Lib.hid (SS.out.rows ho hb)
     clear ho hb
     refine hK.out _ _ (mkS_4 _ _ _ SS.out) (fun hH => ?_)
     clear hK K
     try simp only [pm, s0, sS]
     refine wpAnyH_ready (rs := [3]) (by kernel_rfl) (by simp) ?_
     refine AllReadyH.cons (o := ⟨some 34,.call { callee := .value (.func 7),args := #[.tmp 33],argTypes := #[28] },34,"exact.go:4535",#[⟨2,.data⟩,⟨1,.chain⟩],none⟩) rfl ?_ ?_
     intro K hK
     go_simp
     go_at_call_of 7 (Value.agg #[Value.int .i64 A1,Value.int .i64 B1,Value.bool P1.s,p10,p11,Value.bool Q1.s,q10,q11,Value.bool R1.s,r10,r11])
     refine (toLink_f A1 B1 P1 Q1 R1 p10 p11 q10 q11 r10 r11 _ (SS.out.lkI HA1.out) HL1.out).mono ?_
     rintro e wc_1 ⟨v0_tb, v1_tb, v2_tb, v3_tb, v4_tb, v5_tb, rfl, ho, hb⟩
     obtain ⟨A0tb, n0tb, c0tb, rfl⟩ := (ho.at_ 0 rfl).shape3
     obtain ⟨A1tb, n1tb, c1tb, rfl⟩ := (ho.at_ 1 rfl).shape3
     obtain ⟨A2tb, n2tb, c2tb, rfl⟩ := (ho.at_ 2 rfl).shape3
     obtain ⟨A3tb, n3tb, c3tb, rfl⟩ := (ho.at_ 3 rfl).shape3
     obtain ⟨A4tb, n4tb, c4tb, rfl⟩ := (ho.at_ 4 rfl).shape3
     obtain ⟨A5tb, n5tb, c5tb, rfl⟩ := (ho.at_ 5 rfl).shape3
     replace SS := Lib.hid (SS.out.rows ho hb)
     clear ho hb
     refine hK.out _ _ (mkS_4 _ _ _ SS.out) (fun hH => ?_)
     clear hK K
     try simp only [pm, s0, sS]
     refine wpAnyH_ready (rs := [4]) (by kernel_rfl) (by simp) ?_
     refine AllReadyH.cons (o := ⟨some 35,.call { callee := .value (.func 6),args := #[.tmp 32,.tmp 34],argTypes := #[34,34] },35,"exact.go:4535",#[⟨1,.data⟩,⟨3,.data⟩,⟨3,.chain⟩],none⟩) rfl ?_ ?_
     intro K hK
     go_simp
     go_at_call 6
     refine (HS.out (.slice A0ta n0ta c0ta) (.slice A1ta n1ta c1ta) (.slice A2ta n2ta c2ta) (.slice A3ta n3ta c3ta) (.slice A4ta n4ta c4ta) (.slice A5ta n5ta c5ta) (.slice A0tb n0tb c0tb) (.slice A1tb n1tb c1tb) (.slice A2tb n2tb c2tb) (.slice A3tb n3tb c3tb) (.slice A4tb n4tb c4tb) (.slice A5tb n5tb c5tb) _ (SS.out.lk 1 rfl) (SS.out.lk 0 rfl)).mono ?_
     rintro e wc_9 ⟨v0_w, v1_w, v2_w, v3_w, v4_w, v5_w, v6_w, v7_w, rfl, ho, hb⟩
     obtain ⟨A0w, n0w, c0w, rfl⟩ := (ho.at_ 0 rfl).shape3
     obtain ⟨A1w, n1w, c1w, rfl⟩ := (ho.at_ 1 rfl).shape3
     obtain ⟨A2w, n2w, c2w, rfl⟩ := (ho.at_ 2 rfl).shape3
     obtain ⟨A3w, n3w, c3w, rfl⟩ := (ho.at_ 3 rfl).shape3
     obtain ⟨A4w, n4w, c4w, rfl⟩ := (ho.at_ 4 rfl).shape3
     obtain ⟨A5w, n5w, c5w, rfl⟩ := (ho.at_ 5 rfl).shape3
     obtain ⟨A6w, n6w, c6w, rfl⟩ := (ho.at_ 6 rfl).shape3
     obtain ⟨A7w, n7w, c7w, rfl⟩ := (ho.at_ 7 rfl).shape3
     replace SS := Lib.hid (SS.out.rows ho hb)
     clear ho hb
     refine hK.out _ _ (mkS_4 _ _ _ SS.out) (fun hH => ?_)
     clear hK K
     try simp only [pm, s0, sS]
     refine tkH 5 ?_ ⟨some 30,.move (.tmp 35),35,"exact.go:4535",#[⟨4,.data⟩],none⟩ ?_ ?_
     rotate_left
     · intro w9 hS; (try dsimp only at hS); go_simp; try with_reducible rfl
     try simp only [pm, s0, sS]
     refine tkH 6 ?_ ⟨some 36,.extract (.tmp 30) 0,34,"exact.go:4535",#[⟨5,.data⟩],none⟩ ?_ ?_
     rotate_left
     · intro w9 hS; (try dsimp only at hS); go_simp; try with_reducible rfl
     try simp only [pm, s0, sS]
     refine tkH 7 ?_ ⟨some 37,.extract (.tmp 30) 1,32,"exact.go:4535",#[⟨5,.data⟩,⟨11,.gcOnly .lateStores⟩],none⟩ ?_ ?_
     rotate_left
     · intro w9 hS; (try dsimp only at hS); go_simp; try with_reducible rfl
     try simp only [pm, s0, sS]
     refine tkH 8 ?_ ⟨some 38,.extract (.tmp 30) 2,4,"exact.go:4535",#[⟨5,.data⟩,⟨12,.gcOnly .lateStores⟩],none⟩ ?_ ?_
     rotate_left
     · intro w9 hS; (try dsimp only at hS); go_simp; try with_reducible rfl
     try simp only [pm, s0, sS]
     clear hH
     revert SS; revert wc_9; revert bkE; revert bkL; revert A0w n0w c0w A1w n1w c1w A2w n2w c2w A3w n3w c3w A4w n4w c4w A5w n5w c5w A6w n6w c6w A7w n7w c7w; revert A0tb n0tb c0tb A1tb n1tb c1tb A2tb n2tb c2tb A3tb n3tb c3tb A4tb n4tb c4tb A5tb n5tb c5tb; revert A0ta n0ta c0ta A1ta n1ta c1ta A2ta n2ta c2ta A3ta n3ta c3ta A4ta n4ta c4ta A5ta n5ta c5ta
     exact FIN trivial
     exact AllReadyH.nil
     exact AllReadyH.nil
     exact AllReadyH.nil
     exact AllReadyH.nil
     refine AllReadyH.cons (o := ⟨some 7,.alloc 32,0,"exact.go:4535",#[],none⟩) rfl ?_ ?_
     intro K hK
     go_simp
     replace SS := Lib.hid (SS.out.allocE [.bool false,.slice none 0 0,.slice none 0 0] 32)
     simp only [List.cons_append, List.nil_append] at SS
     generalize hbk : Array.size (World.heap wd) = bkE at SS ⊢
     clear hbk
     generalize hwa : World.alloc _ _ = waE at SS ⊢
     clear hwa
     refine hK.out _ _ (mkS_4 _ _ _ SS.out) (fun hH => ?_)
     clear hK K
     try simp only [pm, s0, sS]
     refine wpAnyH_ready (rs := [1, 9]) (by kernel_rfl) (by simp) ?_
     refine AllReadyH.cons (o := ⟨some 32,.call { callee := .value (.func 7),args := #[.tmp 31],argTypes := #[28] },34,"exact.go:4535",#[⟨0,.data⟩],none⟩) rfl ?_ ?_
     intro K hK
     go_simp
     go_at_call_of 7 (Value.agg #[Value.int .i64 A0,Value.int .i64 B0,Value.bool P0.s,p00,p01,Value.bool Q0.s,q00,q01,Value.bool R0.s,r00,r01])
     refine (toLink_f A0 B0 P0 Q0 R0 p00 p01 q00 q01 r00 r01 _ (SS.out.lkI HA0.out) HL0.out).mono ?_
     rintro e wc_0 ⟨v0_ta, v1_ta, v2_ta, v3_ta, v4_ta, v5_ta, rfl, ho, hb⟩
     obtain ⟨A0ta, n0ta, c0ta, rfl⟩ := (ho.at_ 0 rfl).shape3
     obtain ⟨A1ta, n1ta, c1ta, rfl⟩ := (ho.at_ 1 rfl).shape3
     obtain ⟨A2ta, n2ta, c2ta, rfl⟩ := (ho.at_ 2 rfl).shape3
     obtain ⟨A3ta, n3ta, c3ta, rfl⟩ := (ho.at_ 3 rfl).shape3
     obtain ⟨A4ta, n4ta, c4ta, rfl⟩ := (ho.at_ 4 rfl).shape3
     obtain ⟨A5ta, n5ta, c5ta, rfl⟩ := (ho.at_ 5 rfl).shape3
     replace SS := Lib.hid (SS.out.rows ho hb)
     clear ho hb
     refine hK.out _ _ (mkS_4 _ _ _ SS.out) (fun hH => ?_)
     clear hK K
     try simp only [pm, s0, sS]
     refine wpAnyH_ready (rs := [3, 9]) (by kernel_rfl) (by simp) ?_
     refine AllReadyH.cons (o := ⟨some 34,.call { callee := .value (.func 7),args := #[.tmp 33],argTypes := #[28] },34,"exact.go:4535",#[⟨2,.data⟩,⟨1,.chain⟩],none⟩) rfl ?_ ?_
     intro K hK
     go_simp
     go_at_call_of 7 (Value.agg #[Value.int .i64 A1,Value.int .i64 B1,Value.bool P1.s,p10,p11,Value.bool Q1.s,q10,q11,Value.bool R1.s,r10,r11])
     refine (toLink_f A1 B1 P1 Q1 R1 p10 p11 q10 q11 r10 r11 _ (SS.out.lkI HA1.out) HL1.out).mono ?_
     rintro e wc_1 ⟨v0_tb, v1_tb, v2_tb, v3_tb, v4_tb, v5_tb, rfl, ho, hb⟩
     obtain ⟨A0tb, n0tb, c0tb, rfl⟩ := (ho.at_ 0 rfl).shape3
     obtain ⟨A1tb, n1tb, c1tb, rfl⟩ := (ho.at_ 1 rfl).shape3
     obtain ⟨A2tb, n2tb, c2tb, rfl⟩ := (ho.at_ 2 rfl).shape3
     obtain ⟨A3tb, n3tb, c3tb, rfl⟩ := (ho.at_ 3 rfl).shape3
     obtain ⟨A4tb, n4tb, c4tb, rfl⟩ := (ho.at_ 4 rfl).shape3
     obtain ⟨A5tb, n5tb, c5tb, rfl⟩ := (ho.at_ 5 rfl).shape3
     replace SS := Lib.hid (SS.out.rows ho hb)
     clear ho hb
     refine hK.out _ _ (mkS_4 _ _ _ SS.out) (fun hH => ?_)
     clear hK K
     try simp only [pm, s0, sS]
     refine wpAnyH_ready (rs := [4, 9]) (by kernel_rfl) (by simp) ?_
     refine AllReadyH.cons (o := ⟨some 35,.call { callee := .value (.func 6),args := #[.tmp 32,.tmp 34],argTypes := #[34,34] },35,"exact.go:4535",#[⟨1,.data⟩,⟨3,.data⟩,⟨3,.chain⟩],none⟩) rfl ?_ ?_
     intro K hK
     go_simp
     go_at_call 6
     refine (HS.out (.slice A0ta n0ta c0ta) (.slice A1ta n1ta c1ta) (.slice A2ta n2ta c2ta) (.slice A3ta n3ta c3ta) (.slice A4ta n4ta c4ta) (.slice A5ta n5ta c5ta) (.slice A0tb n0tb c0tb) (.slice A1tb n1tb c1tb) (.slice A2tb n2tb c2tb) (.slice A3tb n3tb c3tb) (.slice A4tb n4tb c4tb) (.slice A5tb n5tb c5tb) _ (SS.out.lk 1 rfl) (SS.out.lk 0 rfl)).mono ?_
     rintro e wc_9 ⟨v0_w, v1_w, v2_w, v3_w, v4_w, v5_w, v6_w, v7_w, rfl, ho, hb⟩
     obtain ⟨A0w, n0w, c0w, rfl⟩ := (ho.at_ 0 rfl).shape3
     obtain ⟨A1w, n1w, c1w, rfl⟩ := (ho.at_ 1 rfl).shape3
     obtain ⟨A2w, n2w, c2w, rfl⟩ := (ho.at_ 2 rfl).shape3
     obtain ⟨A3w, n3w, c3w, rfl⟩ := (ho.at_ 3 rfl).shape3
     obtain ⟨A4w, n4w, c4w, rfl⟩ := (ho.at_ 4 rfl).shape3
     obtain ⟨A5w, n5w, c5w, rfl⟩ := (ho.at_ 5 rfl).shape3
     obtain ⟨A6w, n6w, c6w, rfl⟩ := (ho.at_ 6 rfl).shape3
     obtain ⟨A7w, n7w, c7w, rfl⟩ := (ho.at_ 7 rfl).shape3
     replace SS := Lib.hid (SS.out.rows ho hb)
     clear ho hb
     refine hK.out _ _ (mkS_4 _ _ _ SS.out) (fun hH => ?_)
     clear hK K
     try simp only [pm, s0, sS]
     refine tkH 5 ?_ ⟨some 30,.move (.tmp 35),35,"exact.go:4535",#[⟨4,.data⟩],none⟩ ?_ ?_
     rotate_left
     · intro w9 hS; (try dsimp only at hS); go_simp; try with_reducible rfl
     try simp only [pm, s0, sS]
     refine tkH 6 ?_ ⟨some 36,.extract (.tmp 30) 0,34,"exact.go:4535",#[⟨5,.data⟩],none⟩ ?_ ?_
     rotate_left
     · intro w9 hS; (try dsimp only at hS); go_simp; try with_reducible rfl
     try simp only [pm, s0, sS]
     refine tkH 7 ?_ ⟨some 37,.extract (.tmp 30) 1,32,"exact.go:4535",#[⟨5,.data⟩,⟨11,.gcOnly .lateStores⟩],none⟩ ?_ ?_
     rotate_left
     · intro w9 hS; (try dsimp only at hS); go_simp; try with_reducible rfl
     try simp only [pm, s0, sS]
     refine tkH 8 ?_ ⟨some 38,.extract (.tmp 30) 2,4,"exact.go:4535",#[⟨5,.data⟩,⟨12,.gcOnly .lateStores⟩],none⟩ ?_ ?_
     rotate_left
     · intro w9 hS; (try dsimp only at hS); go_simp; try with_reducible rfl
     try simp only [pm, s0, sS]
     refine wpAnyH_ready (rs := [9]) (by kernel_rfl) (by simp) ?_
     refine AllReadyH.cons (o := ⟨some 6,.alloc 34,0,"exact.go:4535",#[],none⟩) rfl ?_ ?_
     intro K hK
     go_simp
     replace SS := Lib.hid (SS.out.allocE [.int .i64 0,.int .i64 0,.bool false,.slice none 0 0,.slice none 0 0,.bool false,.slice none 0 0,.slice none 0 0,.bool false,.slice none 0 0,.slice none 0 0] 34)
     simp only [List.cons_append, List.nil_append] at SS
     generalize hbk : Array.size (World.heap wc_9) = bkL at SS ⊢
     clear hbk
     generalize hwa : World.alloc _ _ = waL at SS ⊢
     clear hwa
     refine hK.out _ _ (mkS_4 _ _ _ SS.out) (fun hH => ?_)
     clear hK K
     try simp only [pm, s0, sS]
     replace SS := Lib.hid (SS.out.perm (List.Perm.cons _ (List.Perm.cons _ (List.Perm.swap _ _ _))) (List.Perm.refl _))
     clear hH
     revert SS; revert waL; revert bkE; revert bkL; revert A0w n0w c0w A1w n1w c1w A2w n2w c2w A3w n3w c3w A4w n4w c4w A5w n5w c5w A6w n6w c6w A7w n7w c7w; revert A0tb n0tb c0tb A1tb n1tb c1tb A2tb n2tb c2tb A3tb n3tb c3tb A4tb n4tb c4tb A5tb n5tb c5tb; revert A0ta n0ta c0ta A1ta n1ta c1ta A2ta n2ta c2ta A3ta n3ta c3ta A4ta n4ta c4ta A5ta n5ta c5ta
     exact FIN trivial
     exact AllReadyH.nil
     refine AllReadyH.cons (o := ⟨some 6,.alloc 34,0,"exact.go:4535",#[],none⟩) rfl ?_ ?_
     intro K hK
     go_simp
     replace SS := Lib.hid (SS.out.allocE [.int .i64 0,.int .i64 0,.bool false,.slice none 0 0,.slice none 0 0,.bool false,.slice none 0 0,.slice none 0 0,.bool false,.slice none 0 0,.slice none 0 0] 34)
     simp only [List.cons_append, List.nil_append] at SS
     generalize hbk : Array.size (World.heap wc_1) = bkL at SS ⊢
     clear hbk
     generalize hwa : World.alloc _ _ = waL at SS ⊢
     clear hwa
     refine hK.out _ _ (mkS_4 _ _ _ SS.out) (fun hH => ?_)
     clear hK K
     try simp only [pm, s0, sS]
     refine wpAnyH_ready (rs := [4]) (by kernel_rfl) (by simp) ?_
     refine AllReadyH.cons (o := ⟨some 35,.call { callee := .value (.func 6),args := #[.tmp 32,.tmp 34],argTypes := #[34,34] },35,"exact.go:4535",#[⟨1,.data⟩,⟨3,.data⟩,⟨3,.chain⟩],none⟩) rfl ?_ ?_
     intro K hK
     go_simp
     go_at_call 6
     refine (HS.out (.slice A0ta n0ta c0ta) (.slice A1ta n1ta c1ta) (.slice A2ta n2ta c2ta) (.slice A3ta n3ta c3ta) (.slice A4ta n4ta c4ta) (.slice A5ta n5ta c5ta) (.slice A0tb n0tb c0tb) (.slice A1tb n1tb c1tb) (.slice A2tb n2tb c2tb) (.slice A3tb n3tb c3tb) (.slice A4tb n4tb c4tb) (.slice A5tb n5tb c5tb) _ (SS.out.lk 1 rfl) (SS.out.lk 0 rfl)).mono ?_
     rintro e wc_9 ⟨v0_w, v1_w, v2_w, v3_w, v4_w, v5_w, v6_w, v7_w, rfl, ho, hb⟩
     obtain ⟨A0w, n0w, c0w, rfl⟩ := (ho.at_ 0 rfl).shape3
     obtain ⟨A1w, n1w, c1w, rfl⟩ := (ho.at_ 1 rfl).shape3
     obtain ⟨A2w, n2w, c2w, rfl⟩ := (ho.at_ 2 rfl).shape3
     obtain ⟨A3w, n3w, c3w, rfl⟩ := (ho.at_ 3 rfl).shape3
     obtain ⟨A4w, n4w, c4w, rfl⟩ := (ho.at_ 4 rfl).shape3
     obtain ⟨A5w, n5w, c5w, rfl⟩ := (ho.at_ 5 rfl).shape3
     obtain ⟨A6w, n6w, c6w, rfl⟩ := (ho.at_ 6 rfl).shape3
     obtain ⟨A7w, n7w, c7w, rfl⟩ := (ho.at_ 7 rfl).shape3
     replace SS := Lib.hid (SS.out.rows ho hb)
     clear ho hb
     refine hK.out _ _ (mkS_4 _ _ _ SS.out) (fun hH => ?_)
     clear hK K
     try simp only [pm, s0, sS]
     refine tkH 5 ?_ ⟨some 30,.move (.tmp 35),35,"exact.go:4535",#[⟨4,.data⟩],none⟩ ?_ ?_
     rotate_left
     · intro w9 hS; (try dsimp only at hS); go_simp; try with_reducible rfl
     try simp only [pm, s0, sS]
     refine tkH 6 ?_ ⟨some 36,.extract (.tmp 30) 0,34,"exact.go:4535",#[⟨5,.data⟩],none⟩ ?_ ?_
     rotate_left
     · intro w9 hS; (try dsimp only at hS); go_simp; try with_reducible rfl
     try simp only [pm, s0, sS]
     refine tkH 7 ?_ ⟨some 37,.extract (.tmp 30) 1,32,"exact.go:4535",#[⟨5,.data⟩,⟨11,.gcOnly .lateStores⟩],none⟩ ?_ ?_
     rotate_left
     · intro w9 hS; (try dsimp only at hS); go_simp; try with_reducible rfl
     try simp only [pm, s0, sS]
     refine tkH 8 ?_ ⟨some 38,.extract (.tmp 30) 2,4,"exact.go:4535",#[⟨5,.data⟩,⟨12,.gcOnly .lateStores⟩],none⟩ ?_ ?_
     rotate_left
     · intro w9 hS; (try dsimp only at hS); go_simp; try with_reducible rfl
     try simp only [pm, s0, sS]
     replace SS := Lib.hid (SS.out.perm (List.Perm.cons _ (List.Perm.cons _ (List.Perm.swap _ _ _))) (List.Perm.refl _))
     clear hH
     revert SS; revert wc_9; revert bkE; revert bkL; revert A0w n0w c0w A1w n1w c1w A2w n2w c2w A3w n3w c3w A4w n4w c4w A5w n5w c5w A6w n6w c6w A7w n7w c7w; revert A0tb n0tb c0tb A1tb n1tb c1tb A2tb n2tb c2tb A3tb n3tb c3tb A4tb n4tb c4tb A5tb n5tb c5tb; revert A0ta n0ta c0ta A1ta n1ta c1ta A2ta n2ta c2ta A3ta n3ta c3ta A4ta n4ta c4ta A5ta n5ta c5ta
     exact FIN trivial
     exact AllReadyH.nil
     exact AllReadyH.nil
     refine AllReadyH.cons (o := ⟨some 6,.alloc 34,0,"exact.go:4535",#[],none⟩) rfl ?_ ?_
     intro K hK
     go_simp
     replace SS := Lib.hid (SS.out.allocE [.int .i64 0,.int .i64 0,.bool false,.slice none 0 0,.slice none 0 0,.bool false,.slice none 0 0,.slice none 0 0,.bool false,.slice none 0 0,.slice none 0 0] 34)
     simp only [List.cons_append, List.nil_append] at SS
     generalize hbk : Array.size (World.heap wc_0) = bkL at SS ⊢
     clear hbk
     generalize hwa : World.alloc _ _ = waL at SS ⊢
     clear hwa
     refine hK.out _ _ (mkS_4 _ _ _ SS.out) (fun hH => ?_)
     clear hK K
     try simp only [pm, s0, sS]
     refine wpAnyH_ready (rs := [3]) (by kernel_rfl) (by simp) ?_
     refine AllReadyH.cons (o := ⟨some 34,.call { callee := .value (.func 7),args := #[.tmp 33],argTypes := #[28] },34,"exact.go:4535",#[⟨2,.data⟩,⟨1,.chain⟩],none⟩) rfl ?_ ?_
     intro K hK
     go_simp
     go_at_call_of 7 (Value.agg #[Value.int .i64 A1,Value.int .i64 B1,Value.bool P1.s,p10,p11,Value.bool Q1.s,q10,q11,Value.bool R1.s,r10,r11])
     refine (toLink_f A1 B1 P1 Q1 R1 p10 p11 q10 q11 r10 r11 _ (SS.out.lkI HA1.out) HL1.out).mono ?_
     rintro e wc_1 ⟨v0_tb, v1_tb, v2_tb, v3_tb, v4_tb, v5_tb, rfl, ho, hb⟩
     obtain ⟨A0tb, n0tb, c0tb, rfl⟩ := (ho.at_ 0 rfl).shape3
     obtain ⟨A1tb, n1tb, c1tb, rfl⟩ := (ho.at_ 1 rfl).shape3
     obtain ⟨A2tb, n2tb, c2tb, rfl⟩ := (ho.at_ 2 rfl).shape3
     obtain ⟨A3tb, n3tb, c3tb, rfl⟩ := (ho.at_ 3 rfl).shape3
     obtain ⟨A4tb, n4tb, c4tb, rfl⟩ := (ho.at_ 4 rfl).shape3
     obtain ⟨A5tb, n5tb, c5tb, rfl⟩ := (ho.at_ 5 rfl).shape3
     replace SS := Lib.hid (SS.out.rows ho hb)
     clear ho hb
     refine hK.out _ _ (mkS_4 _ _ _ SS.out) (fun hH => ?_)
     clear hK K
     try simp only [pm, s0, sS]
     refine wpAnyH_ready (rs := [4]) (by kernel_rfl) (by simp) ?_
     refine AllReadyH.cons (o := ⟨some 35,.call { callee := .value (.func 6),args := #[.tmp 32,.tmp 34],argTypes := #[34,34] },35,"exact.go:4535",#[⟨1,.data⟩,⟨3,.data⟩,⟨3,.chain⟩],none⟩) rfl ?_ ?_
     intro K hK
     go_simp
     go_at_call 6
     refine (HS.out (.slice A0ta n0ta c0ta) (.slice A1ta n1ta c1ta) (.slice A2ta n2ta c2ta) (.slice A3ta n3ta c3ta) (.slice A4ta n4ta c4ta) (.slice A5ta n5ta c5ta) (.slice A0tb n0tb c0tb) (.slice A1tb n1tb c1tb) (.slice A2tb n2tb c2tb) (.slice A3tb n3tb c3tb) (.slice A4tb n4tb c4tb) (.slice A5tb n5tb c5tb) _ (SS.out.lk 1 rfl) (SS.out.lk 0 rfl)).mono ?_
     rintro e wc_9 ⟨v0_w, v1_w, v2_w, v3_w, v4_w, v5_w, v6_w, v7_w, rfl, ho, hb⟩
     obtain ⟨A0w, n0w, c0w, rfl⟩ := (ho.at_ 0 rfl).shape3
     obtain ⟨A1w, n1w, c1w, rfl⟩ := (ho.at_ 1 rfl).shape3
     obtain ⟨A2w, n2w, c2w, rfl⟩ := (ho.at_ 2 rfl).shape3
     obtain ⟨A3w, n3w, c3w, rfl⟩ := (ho.at_ 3 rfl).shape3
     obtain ⟨A4w, n4w, c4w, rfl⟩ := (ho.at_ 4 rfl).shape3
     obtain ⟨A5w, n5w, c5w, rfl⟩ := (ho.at_ 5 rfl).shape3
     obtain ⟨A6w, n6w, c6w, rfl⟩ := (ho.at_ 6 rfl).shape3
     obtain ⟨A7w, n7w, c7w, rfl⟩ := (ho.at_ 7 rfl).shape3
     replace SS := Lib.hid (SS.out.rows ho hb)
     clear ho hb
     refine hK.out _ _ (mkS_4 _ _ _ SS.out) (fun hH => ?_)
     clear hK K
     try simp only [pm, s0, sS]
     refine tkH 5 ?_ ⟨some 30,.move (.tmp 35),35,"exact.go:4535",#[⟨4,.data⟩],none⟩ ?_ ?_
     rotate_left
     · intro w9 hS; (try dsimp only at hS); go_simp; try with_reducible rfl
     try simp only [pm, s0, sS]
     refine tkH 6 ?_ ⟨some 36,.extract (.tmp 30) 0,34,"exact.go:4535",#[⟨5,.data⟩],none⟩ ?_ ?_
     rotate_left
     · intro w9 hS; (try dsimp only at hS); go_simp; try with_reducible rfl
     try simp only [pm, s0, sS]
     refine tkH 7 ?_ ⟨some 37,.extract (.tmp 30) 1,32,"exact.go:4535",#[⟨5,.data⟩,⟨11,.gcOnly .lateStores⟩],none⟩ ?_ ?_
     rotate_left
     · intro w9 hS; (try dsimp only at hS); go_simp; try with_reducible rfl
     try simp only [pm, s0, sS]
     refine tkH 8 ?_ ⟨some 38,.extract (.tmp 30) 2,4,"exact.go:4535",#[⟨5,.data⟩,⟨12,.gcOnly .lateStores⟩],none⟩ ?_ ?_
     rotate_left
     · intro w9 hS; (try dsimp only at hS); go_simp; try with_reducible rfl
     try simp only [pm, s0, sS]
     replace SS := Lib.hid (SS.out.perm (List.Perm.cons _ (List.Perm.cons _ (List.Perm.swap _ _ _))) (List.Perm.refl _))
     clear hH
     revert SS; revert wc_9; revert bkE; revert bkL; revert A0w n0w c0w A1w n1w c1w A2w n2w c2w A3w n3w c3w A4w n4w c4w A5w n5w c5w A6w n6w c6w A7w n7w c7w; revert A0tb n0tb c0tb A1tb n1tb c1tb A2tb n2tb c2tb A3tb n3tb c3tb A4tb n4tb c4tb A5tb n5tb c5tb; revert A0ta n0ta c0ta A1ta n1ta c1ta A2ta n2ta c2ta A3ta n3ta c3ta A4ta n4ta c4ta A5ta n5ta c5ta
     exact FIN trivial
     exact AllReadyH.nil
     exact AllReadyH.nil
     exact AllReadyH.nil
     refine AllReadyH.cons (o := ⟨some 6,.alloc 34,0,"exact.go:4535",#[],none⟩) rfl ?_ ?_
     intro K hK
     go_simp
     replace SS := Lib.hid (SS.out.allocE [.int .i64 0,.int .i64 0,.bool false,.slice none 0 0,.slice none 0 0,.bool false,.slice none 0 0,.slice none 0 0,.bool false,.slice none 0 0,.slice none 0 0] 34)
     simp only [List.cons_append, List.nil_append] at SS
     generalize hbk : Array.size (World.heap waE) = bkL at SS ⊢
     clear hbk
     generalize hwa : World.alloc _ _ = waL at SS ⊢
     clear hwa
     refine hK.out _ _ (mkS_4 _ _ _ SS.out) (fun hH => ?_)
     clear hK K
     try simp only [pm, s0, sS]
     refine wpAnyH_ready (rs := [1]) (by kernel_rfl) (by simp) ?_
     refine AllReadyH.cons (o := ⟨some 32,.call { callee := .value (.func 7),args := #[.tmp 31],argTypes := #[28] },34,"exact.go:4535",#[⟨0,.data⟩],none⟩) rfl ?_ ?_
     intro K hK
     go_simp
     go_at_call_of 7 (Value.agg #[Value.int .i64 A0,Value.int .i64 B0,Value.bool P0.s,p00,p01,Value.bool Q0.s,q00,q01,Value.bool R0.s,r00,r01])
     refine (toLink_f A0 B0 P0 Q0 R0 p00 p01 q00 q01 r00 r01 _ (SS.out.lkI HA0.out) HL0.out).mono ?_
     rintro e wc_0 ⟨v0_ta, v1_ta, v2_ta, v3_ta, v4_ta, v5_ta, rfl, ho, hb⟩
     obtain ⟨A0ta, n0ta, c0ta, rfl⟩ := (ho.at_ 0 rfl).shape3
     obtain ⟨A1ta, n1ta, c1ta, rfl⟩ := (ho.at_ 1 rfl).shape3
     obtain ⟨A2ta, n2ta, c2ta, rfl⟩ := (ho.at_ 2 rfl).shape3
     obtain ⟨A3ta, n3ta, c3ta, rfl⟩ := (ho.at_ 3 rfl).shape3
     obtain ⟨A4ta, n4ta, c4ta, rfl⟩ := (ho.at_ 4 rfl).shape3
     obtain ⟨A5ta, n5ta, c5ta, rfl⟩ := (ho.at_ 5 rfl).shape3
     replace SS := Lib.hid (SS.out.rows ho hb)
     clear ho hb
     refine hK.out _ _ (mkS_4 _ _ _ SS.out) (fun hH => ?_)
     clear hK K
     try simp only [pm, s0, sS]
     refine wpAnyH_ready (rs := [3]) (by kernel_rfl) (by simp) ?_
     refine AllReadyH.cons (o := ⟨some 34,.call { callee := .value (.func 7),args := #[.tmp 33],argTypes := #[28] },34,"exact.go:4535",#[⟨2,.data⟩,⟨1,.chain⟩],none⟩) rfl ?_ ?_
     intro K hK
     go_simp
     go_at_call_of 7 (Value.agg #[Value.int .i64 A1,Value.int .i64 B1,Value.bool P1.s,p10,p11,Value.bool Q1.s,q10,q11,Value.bool R1.s,r10,r11])
     refine (toLink_f A1 B1 P1 Q1 R1 p10 p11 q10 q11 r10 r11 _ (SS.out.lkI HA1.out) HL1.out).mono ?_
     rintro e wc_1 ⟨v0_tb, v1_tb, v2_tb, v3_tb, v4_tb, v5_tb, rfl, ho, hb⟩
     obtain ⟨A0tb, n0tb, c0tb, rfl⟩ := (ho.at_ 0 rfl).shape3
     obtain ⟨A1tb, n1tb, c1tb, rfl⟩ := (ho.at_ 1 rfl).shape3
     obtain ⟨A2tb, n2tb, c2tb, rfl⟩ := (ho.at_ 2 rfl).shape3
     obtain ⟨A3tb, n3tb, c3tb, rfl⟩ := (ho.at_ 3 rfl).shape3
     obtain ⟨A4tb, n4tb, c4tb, rfl⟩ := (ho.at_ 4 rfl).shape3
     obtain ⟨A5tb, n5tb, c5tb, rfl⟩ := (ho.at_ 5 rfl).shape3
     replace SS := Lib.hid (SS.out.rows ho hb)
     clear ho hb
     refine hK.out _ _ (mkS_4 _ _ _ SS.out) (fun hH => ?_)
     clear hK K
     try simp only [pm, s0, sS]
     refine wpAnyH_ready (rs := [4]) (by kernel_rfl) (by simp) ?_
     refine AllReadyH.cons (o := ⟨some 35,.call { callee := .value (.func 6),args := #[.tmp 32,.tmp 34],argTypes := #[34,34] },35,"exact.go:4535",#[⟨1,.data⟩,⟨3,.data⟩,⟨3,.chain⟩],none⟩) rfl ?_ ?_
     intro K hK
     go_simp
     go_at_call 6
     refine (HS.out (.slice A0ta n0ta c0ta) (.slice A1ta n1ta c1ta) (.slice A2ta n2ta c2ta) (.slice A3ta n3ta c3ta) (.slice A4ta n4ta c4ta) (.slice A5ta n5ta c5ta) (.slice A0tb n0tb c0tb) (.slice A1tb n1tb c1tb) (.slice A2tb n2tb c2tb) (.slice A3tb n3tb c3tb) (.slice A4tb n4tb c4tb) (.slice A5tb n5tb c5tb) _ (SS.out.lk 1 rfl) (SS.out.lk 0 rfl)).mono ?_
     rintro e wc_9 ⟨v0_w, v1_w, v2_w, v3_w, v4_w, v5_w, v6_w, v7_w, rfl, ho, hb⟩
     obtain ⟨A0w, n0w, c0w, rfl⟩ := (ho.at_ 0 rfl).shape3
     obtain ⟨A1w, n1w, c1w, rfl⟩ := (ho.at_ 1 rfl).shape3
     obtain ⟨A2w, n2w, c2w, rfl⟩ := (ho.at_ 2 rfl).shape3
     obtain ⟨A3w, n3w, c3w, rfl⟩ := (ho.at_ 3 rfl).shape3
     obtain ⟨A4w, n4w, c4w, rfl⟩ := (ho.at_ 4 rfl).shape3
     obtain ⟨A5w, n5w, c5w, rfl⟩ := (ho.at_ 5 rfl).shape3
     obtain ⟨A6w, n6w, c6w, rfl⟩ := (ho.at_ 6 rfl).shape3
     obtain ⟨A7w, n7w, c7w, rfl⟩ := (ho.at_ 7 rfl).shape3
     replace SS := Lib.hid (SS.out.rows ho hb)
     clear ho hb
     refine hK.out _ _ (mkS_4 _ _ _ SS.out) (fun hH => ?_)
     clear hK K
     try simp only [pm, s0, sS]
     refine tkH 5 ?_ ⟨some 30,.move (.tmp 35),35,"exact.go:4535",#[⟨4,.data⟩],none⟩ ?_ ?_
     rotate_left
     · intro w9 hS; (try dsimp only at hS); go_simp; try with_reducible rfl
     try simp only [pm, s0, sS]
     refine tkH 6 ?_ ⟨some 36,.extract (.tmp 30) 0,34,"exact.go:4535",#[⟨5,.data⟩],none⟩ ?_ ?_
     rotate_left
     · intro w9 hS; (try dsimp only at hS); go_simp; try with_reducible rfl
     try simp only [pm, s0, sS]
     refine tkH 7 ?_ ⟨some 37,.extract (.tmp 30) 1,32,"exact.go:4535",#[⟨5,.data⟩,⟨11,.gcOnly .lateStores⟩],none⟩ ?_ ?_
     rotate_left
     · intro w9 hS; (try dsimp only at hS); go_simp; try with_reducible rfl
     try simp only [pm, s0, sS]
     refine tkH 8 ?_ ⟨some 38,.extract (.tmp 30) 2,4,"exact.go:4535",#[⟨5,.data⟩,⟨12,.gcOnly .lateStores⟩],none⟩ ?_ ?_
     rotate_left
     · intro w9 hS; (try dsimp only at hS); go_simp; try with_reducible rfl
     try simp only [pm, s0, sS]
     replace SS := Lib.hid (SS.out.perm (List.Perm.cons _ (List.Perm.cons _ (List.Perm.swap _ _ _))) (List.Perm.refl _))
     clear hH
     revert SS; revert wc_9; revert bkE; revert bkL; revert A0w n0w c0w A1w n1w c1w A2w n2w c2w A3w n3w c3w A4w n4w c4w A5w n5w c5w A6w n6w c6w A7w n7w c7w; revert A0tb n0tb c0tb A1tb n1tb c1tb A2tb n2tb c2tb A3tb n3tb c3tb A4tb n4tb c4tb A5tb n5tb c5tb; revert A0ta n0ta c0ta A1ta n1ta c1ta A2ta n2ta c2ta A3ta n3ta c3ta A4ta n4ta c4ta A5ta n5ta c5ta
     exact FIN trivial
     exact AllReadyH.nil
     exact AllReadyH.nil
     exact AllReadyH.nil
     exact AllReadyH.nil
     exact AllReadyH.nil
   as_aux_lemma =>
   intro A0ta n0ta c0ta A1ta n1ta c1ta A2ta n2ta c2ta A3ta n3ta c3ta A4ta n4ta c4ta A5ta n5ta c5ta A0tb n0tb c0tb A1tb n1tb c1tb A2tb n2tb c2tb A3tb n3tb c3tb A4tb n4tb c4tb A5tb n5tb c5tb A0w n0w c0w A1w n1w c1w A2w n2w c2w A3w n3w c3w A4w n4w c4w A5w n5w c5w A6w n6w c6w A7w n7w c7w bkL bkE wq SS
   have hH := mkS_4 _ _ _ SS.out
   refine wpAnyH_ready (rs := [11]) (by kernel_rfl) (by simp) ?_
   refine AllReadyH.cons (o := ⟨none,.store 34 (.tmp 6) (.tmp 36),0,"exact.go:4535",#[⟨9,.data⟩,⟨6,.data⟩,⟨4,.chain⟩,⟨0,.phase⟩,⟨1,.phase⟩,⟨2,.phase⟩,⟨3,.phase⟩,⟨4,.phase⟩,⟨5,.phase⟩,⟨6,.phase⟩,⟨7,.textOnly .lateStores⟩,⟨8,.textOnly .lateStores⟩,⟨9,.phase⟩,⟨10,.phase⟩],none⟩) rfl ?_ ?_
   rotate_left
   exact AllReadyH.nil
   intro K hK
   rw [if_pos (by rfl)]
   refine wp_store_mid _ _ _ rfl _ _ (List.toArray [.int .i64 RA, .int .i64 RB, .bool RP.s, (.slice A0w n0w c0w), (.slice A1w n1w c1w), .bool RQ.s, (.slice A2w n2w c2w), (.slice A3w n3w c3w), .bool RR.s, (.slice A4w n4w c4w), (.slice A5w n5w c5w)]) rfl rfl (SS.out.there_ 2 rfl rfl) (size_link) (all_oneCell_toArray (List.all_eq_true.mp rfl)) ?_
   simp only [Act.put]
   replace SS := Lib.hid (SS.out.setKit 2 [.int .i64 RA,.int .i64 RB,.bool RP.s,(.slice A0w n0w c0w),(.slice A1w n1w c1w),.bool RQ.s,(.slice A2w n2w c2w),(.slice A3w n3w c3w),.bool RR.s,(.slice A4w n4w c4w),(.slice A5w n5w c5w)] rfl rfl)
   simp only [List.set_cons_zero, List.set_cons_succ] at SS
   generalize hwq0 : World.setCells _ _ _ _ = wq0 at SS ⊢
   clear hwq0
   refine hK.out _ _ (mkS_4 _ _ _ SS.out) (fun hH => ?_)
   clear hK K
   try simp only [pm, s0, sS]
   refine wpAnyH_ready (rs := [12]) (by kernel_rfl) (by simp) ?_
   refine AllReadyH.cons (o := ⟨none,.store 32 (.tmp 7) (.tmp 37),0,"exact.go:4535",#[⟨10,.data⟩,⟨7,.data⟩,⟨11,.chain⟩,⟨0,.phase⟩,⟨1,.phase⟩,⟨2,.phase⟩,⟨3,.phase⟩,⟨4,.phase⟩,⟨5,.phase⟩,⟨6,.phase⟩,⟨7,.phase⟩,⟨8,.textOnly .lateStores⟩,⟨9,.phase⟩,⟨10,.phase⟩,⟨11,.phase⟩],none⟩) rfl ?_ ?_
   rotate_left
   exact AllReadyH.nil
   intro K hK
   rw [if_pos (by rfl)]
   refine wp_store_mid _ _ _ rfl _ _ (List.toArray [.bool RE.s, (.slice A6w n6w c6w), (.slice A7w n7w c7w)]) rfl rfl (SS.out.there_ 3 rfl rfl) (size_rat) (all_oneCell_toArray (List.all_eq_true.mp rfl)) ?_
   simp only [Act.put]
   replace SS := Lib.hid (SS.out.setKit 3 [.bool RE.s,(.slice A6w n6w c6w),(.slice A7w n7w c7w)] rfl rfl)
   simp only [List.set_cons_zero, List.set_cons_succ] at SS
   generalize hwq1 : World.setCells _ _ _ _ = wq1 at SS ⊢
   clear hwq1
   refine hK.out _ _ (mkS_4 _ _ _ SS.out) (fun hH => ?_)
   clear hK K
   try simp only [pm, s0, sS]
   refine tkH 13 ?_ ⟨some 8,.assign (.tmp 38),4,"exact.go:4535",#[⟨8,.data⟩,⟨12,.chain⟩,⟨0,.phase⟩,⟨1,.phase⟩,⟨2,.phase⟩,⟨3,.phase⟩,⟨4,.phase⟩,⟨5,.phase⟩,⟨6,.phase⟩,⟨7,.phase⟩,⟨8,.phase⟩,⟨9,.phase⟩,⟨10,.phase⟩,⟨11,.phase⟩,⟨12,.phase⟩],none⟩ ?_ ?_
   rotate_left
   · intro w9 hS; (try dsimp only at hS); go_simp; try with_reducible rfl
   try simp only [pm, s0, sS]
   refine wpAnyH_done (by kernel_rfl) ?_ _
   refine NoPanic.normal ?_
   go_wp2_with fail
   go_meet
   refine ⟨_, _, A0w, n0w, c0w, A1w, n1w, c1w, A2w, n2w, c2w, A3w, n3w, c3w, A4w, n4w, c4w, A5w, n5w, c5w, A6w, n6w, c6w, A7w, n7w, c7w, rfl, rfl, rfl, ?_⟩
   exact ((SS.out.drop 1).drop 1).split
 as_aux_lemma =>
 obtain ⟨b_wL, b_wE, A0w, n0w, c0w, A1w, n1w, c1w, A2w, n2w, c2w, A3w, n3w, c3w, A4w, n4w, c4w, A5w, n5w, c5w, A6w, n6w, c6w, A7w, n7w, c7w, rfl, rfl, rfl, hst⟩ := hcut
 have S_104 := Lib.hid hst
 clear hst S_3
 have hne_arg1_wL := S_104.out.ne 0 2 rfl rfl (by decide)
 have hne_arg1_wE := S_104.out.ne 0 3 rfl rfl (by decide)
 have hne_arg0_wL := S_104.out.ne 1 2 rfl rfl (by decide)
 have hne_arg0_wE := S_104.out.ne 1 3 rfl rfl (by decide)
 have hne_wL_arg1 := S_104.out.ne 2 0 rfl rfl (by decide)
 have hne_wL_arg0 := S_104.out.ne 2 1 rfl rfl (by decide)
 have hne_wL_wE := S_104.out.ne 2 3 rfl rfl (by decide)
 have hne_wE_arg1 := S_104.out.ne 3 0 rfl rfl (by decide)
 have hne_wE_arg0 := S_104.out.ne 3 1 rfl rfl (by decide)
 have hne_wE_wL := S_104.out.ne 3 2 rfl rfl (by decide)
 obtain ⟨wnw, hwnw⟩ : ∃ u, wc = u := ⟨_, rfl⟩
 rw [hwnw] at S_104 ⊢
 clear hwnw
 have hk_arg0_0_104 := S_104.out.cell 1 0 rfl rfl
 have hk_arg0_1_104 := S_104.out.cell 1 1 rfl rfl
 have hk_arg0_2_104 := S_104.out.cell 1 2 rfl rfl
 have hk_arg0_3_104 := S_104.out.cell 1 3 rfl rfl
 have hk_arg0_4_104 := S_104.out.cell 1 4 rfl rfl
 have hk_arg0_5_104 := S_104.out.cell 1 5 rfl rfl
 have hk_arg0_6_104 := S_104.out.cell 1 6 rfl rfl
 have hk_arg0_7_104 := S_104.out.cell 1 7 rfl rfl
 have hk_arg0_8_104 := S_104.out.cell 1 8 rfl rfl
 have hk_arg0_9_104 := S_104.out.cell 1 9 rfl rfl
 have hk_arg0_10_104 := S_104.out.cell 1 10 rfl rfl
 go_wp2_with fail
 refine (toLink_f A0 B0 P0 Q0 R0 p00 p01 q00 q01 r00 r01 _ (S_104.out.lkI HA0.out) HL0.out).mono ?_
 rintro e w43 ⟨v0_x0, v1_x0, v2_x0, v3_x0, v4_x0, v5_x0, rfl, ho, hb⟩
 obtain ⟨A0x0, n0x0, c0x0, rfl⟩ := (ho.at_ 0 rfl).shape3
 obtain ⟨A1x0, n1x0, c1x0, rfl⟩ := (ho.at_ 1 rfl).shape3
 obtain ⟨A2x0, n2x0, c2x0, rfl⟩ := (ho.at_ 2 rfl).shape3
 obtain ⟨A3x0, n3x0, c3x0, rfl⟩ := (ho.at_ 3 rfl).shape3
 obtain ⟨A4x0, n4x0, c4x0, rfl⟩ := (ho.at_ 4 rfl).shape3
 obtain ⟨A5x0, n5x0, c5x0, rfl⟩ := (ho.at_ 5 rfl).shape3
 have S_105 := Lib.hid (S_104.out.rows ho hb)
 clear S_104
 clear ho hb
 clear hk_arg0_0_104 hk_arg0_1_104 hk_arg0_2_104 hk_arg0_3_104 hk_arg0_4_104 hk_arg0_5_104 hk_arg0_6_104 hk_arg0_7_104 hk_arg0_8_104 hk_arg0_9_104 hk_arg0_10_104
 have S_106 := Lib.hid (S_105.out.alloc [.int .i64 A0, .int .i64 B0, .bool P0.s, (.slice A0x0 n0x0 c0x0), (.slice A1x0 n1x0 c1x0), .bool Q0.s, (.slice A2x0 n2x0 c2x0), (.slice A3x0 n3x0 c3x0), .bool R0.s, (.slice A4x0 n4x0 c4x0), (.slice A5x0 n5x0 c5x0)] 34)
 clear S_105
 have hne_arg1_x0 := S_106.out.ne 1 0 rfl rfl (by decide)
 have hne_x0_arg1 := S_106.out.ne 0 1 rfl rfl (by decide)
 have hne_arg0_x0 := S_106.out.ne 2 0 rfl rfl (by decide)
 have hne_x0_arg0 := S_106.out.ne 0 2 rfl rfl (by decide)
 have hne_wL_x0 := S_106.out.ne 3 0 rfl rfl (by decide)
 have hne_x0_wL := S_106.out.ne 0 3 rfl rfl (by decide)
 have hne_wE_x0 := S_106.out.ne 4 0 rfl rfl (by decide)
 have hne_x0_wE := S_106.out.ne 0 4 rfl rfl (by decide)
 have hk_arg1_0_106 := S_106.out.cell 1 0 rfl rfl
 have hk_arg1_1_106 := S_106.out.cell 1 1 rfl rfl
 have hk_arg1_2_106 := S_106.out.cell 1 2 rfl rfl
 have hk_arg1_3_106 := S_106.out.cell 1 3 rfl rfl
 have hk_arg1_4_106 := S_106.out.cell 1 4 rfl rfl
 have hk_arg1_5_106 := S_106.out.cell 1 5 rfl rfl
 have hk_arg1_6_106 := S_106.out.cell 1 6 rfl rfl
 have hk_arg1_7_106 := S_106.out.cell 1 7 rfl rfl
 have hk_arg1_8_106 := S_106.out.cell 1 8 rfl rfl
 have hk_arg1_9_106 := S_106.out.cell 1 9 rfl rfl
 have hk_arg1_10_106 := S_106.out.cell 1 10 rfl rfl
 go_wp2_with fail
 refine (toLink_f A1 B1 P1 Q1 R1 p10 p11 q10 q11 r10 r11 _ (S_106.out.lkI HA1.out) HL1.out).mono ?_
 rintro e w44 ⟨v0_x1, v1_x1, v2_x1, v3_x1, v4_x1, v5_x1, rfl, ho, hb⟩
 obtain ⟨A0x1, n0x1, c0x1, rfl⟩ := (ho.at_ 0 rfl).shape3
 obtain ⟨A1x1, n1x1, c1x1, rfl⟩ := (ho.at_ 1 rfl).shape3
 obtain ⟨A2x1, n2x1, c2x1, rfl⟩ := (ho.at_ 2 rfl).shape3
 obtain ⟨A3x1, n3x1, c3x1, rfl⟩ := (ho.at_ 3 rfl).shape3
 obtain ⟨A4x1, n4x1, c4x1, rfl⟩ := (ho.at_ 4 rfl).shape3
 obtain ⟨A5x1, n5x1, c5x1, rfl⟩ := (ho.at_ 5 rfl).shape3
 have S_107 := Lib.hid (S_106.out.rows ho hb)
 clear S_106
 clear ho hb
 clear hk_arg1_0_106 hk_arg1_1_106 hk_arg1_2_106 hk_arg1_3_106 hk_arg1_4_106 hk_arg1_5_106 hk_arg1_6_106 hk_arg1_7_106 hk_arg1_8_106 hk_arg1_9_106 hk_arg1_10_106
 have S_108 := Lib.hid (S_107.out.alloc [.int .i64 A1, .int .i64 B1, .bool P1.s, (.slice A0x1 n0x1 c0x1), (.slice A1x1 n1x1 c1x1), .bool Q1.s, (.slice A2x1 n2x1 c2x1), (.slice A3x1 n3x1 c3x1), .bool R1.s, (.slice A4x1 n4x1 c4x1), (.slice A5x1 n5x1 c5x1)] 34)
 clear S_107
 have hne_x0_x1 := S_108.out.ne 1 0 rfl rfl (by decide)
 have hne_x1_x0 := S_108.out.ne 0 1 rfl rfl (by decide)
 have hne_arg1_x1 := S_108.out.ne 2 0 rfl rfl (by decide)
 have hne_x1_arg1 := S_108.out.ne 0 2 rfl rfl (by decide)
 have hne_arg0_x1 := S_108.out.ne 3 0 rfl rfl (by decide)
 have hne_x1_arg0 := S_108.out.ne 0 3 rfl rfl (by decide)
 have hne_wL_x1 := S_108.out.ne 4 0 rfl rfl (by decide)
 have hne_x1_wL := S_108.out.ne 0 4 rfl rfl (by decide)
 have hne_wE_x1 := S_108.out.ne 5 0 rfl rfl (by decide)
 have hne_x1_wE := S_108.out.ne 0 5 rfl rfl (by decide)
 have hk_x0_0_108 := S_108.out.cell 1 0 rfl rfl
 have hk_x0_1_108 := S_108.out.cell 1 1 rfl rfl
 have hk_x0_2_108 := S_108.out.cell 1 2 rfl rfl
 have hk_x0_3_108 := S_108.out.cell 1 3 rfl rfl
 have hk_x0_4_108 := S_108.out.cell 1 4 rfl rfl
 have hk_x0_5_108 := S_108.out.cell 1 5 rfl rfl
 have hk_x0_6_108 := S_108.out.cell 1 6 rfl rfl
 have hk_x0_7_108 := S_108.out.cell 1 7 rfl rfl
 have hk_x0_8_108 := S_108.out.cell 1 8 rfl rfl
 have hk_x0_9_108 := S_108.out.cell 1 9 rfl rfl
 have hk_x0_10_108 := S_108.out.cell 1 10 rfl rfl
 have hk_x1_0_108 := S_108.out.cell 0 0 rfl rfl
 have hk_x1_1_108 := S_108.out.cell 0 1 rfl rfl
 have hk_x1_2_108 := S_108.out.cell 0 2 rfl rfl
 have hk_x1_3_108 := S_108.out.cell 0 3 rfl rfl
 have hk_x1_4_108 := S_108.out.cell 0 4 rfl rfl
 have hk_x1_5_108 := S_108.out.cell 0 5 rfl rfl
 have hk_x1_6_108 := S_108.out.cell 0 6 rfl rfl
 have hk_x1_7_108 := S_108.out.cell 0 7 rfl rfl
 have hk_x1_8_108 := S_108.out.cell 0 8 rfl rfl
 have hk_x1_9_108 := S_108.out.cell 0 9 rfl rfl
 have hk_x1_10_108 := S_108.out.cell 0 10 rfl rfl
 as_aux_lemma =>
 go_wp2_with fail
 clear hk_x0_0_108 hk_x0_1_108 hk_x0_2_108 hk_x0_3_108 hk_x0_4_108 hk_x0_5_108 hk_x0_6_108 hk_x0_7_108 hk_x0_8_108 hk_x0_9_108 hk_x0_10_108 hk_x1_0_108 hk_x1_1_108 hk_x1_2_108 hk_x1_3_108 hk_x1_4_108 hk_x1_5_108 hk_x1_6_108 hk_x1_7_108 hk_x1_8_108 hk_x1_9_108 hk_x1_10_108
 refine (HI.out (.slice A0x0 n0x0 c0x0) (.slice A1x0 n1x0 c1x0) (.slice A2x0 n2x0 c2x0) (.slice A3x0 n3x0 c3x0) (.slice A4x0 n4x0 c4x0) (.slice A5x0 n5x0 c5x0) (.slice A0x1 n0x1 c0x1) (.slice A1x1 n1x1 c1x1) (.slice A2x1 n2x1 c2x1) (.slice A3x1 n3x1 c3x1) (.slice A4x1 n4x1 c4x1) (.slice A5x1 n5x1 c5x1) _ (S_108.out.lk 1 rfl) (S_108.out.lk 0 rfl)).mono ?_
 rintro e w45 ⟨v0_g, v1_g, v2_g, v3_g, v4_g, v5_g, v6_g, v7_g, rfl, ho, hb⟩
 obtain ⟨A0g, n0g, c0g, rfl⟩ := (ho.at_ 0 rfl).shape3
 obtain ⟨A1g, n1g, c1g, rfl⟩ := (ho.at_ 1 rfl).shape3
 obtain ⟨A2g, n2g, c2g, rfl⟩ := (ho.at_ 2 rfl).shape3
 obtain ⟨A3g, n3g, c3g, rfl⟩ := (ho.at_ 3 rfl).shape3
 obtain ⟨A4g, n4g, c4g, rfl⟩ := (ho.at_ 4 rfl).shape3
 obtain ⟨A5g, n5g, c5g, rfl⟩ := (ho.at_ 5 rfl).shape3
 obtain ⟨A6g, n6g, c6g, rfl⟩ := (ho.at_ 6 rfl).shape3
 obtain ⟨A7g, n7g, c7g, rfl⟩ := (ho.at_ 7 rfl).shape3
 have S_109 := Lib.hid ((S_108.out.rows ho hb).split)
 clear S_108
 clear ho hb
 have S_110 := Lib.hid (show St W w45 [(w44.heap.size,[.int .i64 A1,.int .i64 B1,.bool P1.s,(.slice A0x1 n0x1 c0x1),(.slice A1x1 n1x1 c1x1),.bool Q1.s,(.slice A2x1 n2x1 c2x1),(.slice A3x1 n3x1 c3x1),.bool R1.s,(.slice A4x1 n4x1 c4x1),(.slice A5x1 n5x1 c5x1)]),(w43.heap.size,[.int .i64 A0,.int .i64 B0,.bool P0.s,(.slice A0x0 n0x0 c0x0),(.slice A1x0 n1x0 c1x0),.bool Q0.s,(.slice A2x0 n2x0 c2x0),(.slice A3x0 n3x0 c3x0),.bool R0.s,(.slice A4x0 n4x0 c4x0),(.slice A5x0 n5x0 c5x0)]),(W.heap.size + 1,[.int .i64 A1,.int .i64 B1,.bool P1.s,p10,p11,.bool Q1.s,q10,q11,.bool R1.s,r10,r11]),(W.heap.size,[.int .i64 A0,.int .i64 B0,.bool P0.s,p00,p01,.bool Q0.s,q00,q01,.bool R0.s,r00,r01]),(b_wL,[.int .i64 RA,.int .i64 RB,.bool RP.s,(.slice A0w n0w c0w),(.slice A1w n1w c1w),.bool RQ.s,(.slice A2w n2w c2w),(.slice A3w n3w c3w),.bool RR.s,(.slice A4w n4w c4w),(.slice A5w n5w c5w)]),(b_wE,[.bool RE.s,(.slice A6w n6w c6w),(.slice A7w n7w c7w)])] [rowsK RP RQ RR (.slice A0g n0g c0g) (.slice A1g n1g c1g) (.slice A2g n2g c2g) (.slice A3g n3g c3g) (.slice A4g n4g c4g) (.slice A5g n5g c5g),[((.slice A6g n6g c6g),ints RE.xs),((.slice A7g n7g c7g),ints RE.ys)],rowsK P1 Q1 R1 (.slice A0x1 n0x1 c0x1) (.slice A1x1 n1x1 c1x1) (.slice A2x1 n2x1 c2x1) (.slice A3x1 n3x1 c3x1) (.slice A4x1 n4x1 c4x1) (.slice A5x1 n5x1 c5x1),rowsK P0 Q0 R0 (.slice A0x0 n0x0 c0x0) (.slice A1x0 n1x0 c1x0) (.slice A2x0 n2x0 c2x0) (.slice A3x0 n3x0 c3x0) (.slice A4x0 n4x0 c4x0) (.slice A5x0 n5x0 c5x0),rowsK RP RQ RR (.slice A0w n0w c0w) (.slice A1w n1w c1w) (.slice A2w n2w c2w) (.slice A3w n3w c3w) (.slice A4w n4w c4w) (.slice A5w n5w c5w),[((.slice A6w n6w c6w),ints RE.xs),((.slice A7w n7w c7w),ints RE.ys)]] from S_109.out)
 clear S_109
 have S_111 := Lib.hid (S_110.out.alloc [.int .i64 RA, .int .i64 RB, .bool RP.s, (.slice A0g n0g c0g), (.slice A1g n1g c1g), .bool RQ.s, (.slice A2g n2g c2g), (.slice A3g n3g c3g), .bool RR.s, (.slice A4g n4g c4g), (.slice A5g n5g c5g)] 34)
 clear S_110
 have hne_x1_gL := S_111.out.ne 1 0 rfl rfl (by decide)
 have hne_gL_x1 := S_111.out.ne 0 1 rfl rfl (by decide)
 have hne_x0_gL := S_111.out.ne 2 0 rfl rfl (by decide)
 have hne_gL_x0 := S_111.out.ne 0 2 rfl rfl (by decide)
 have hne_arg1_gL := S_111.out.ne 3 0 rfl rfl (by decide)
 have hne_gL_arg1 := S_111.out.ne 0 3 rfl rfl (by decide)
 have hne_arg0_gL := S_111.out.ne 4 0 rfl rfl (by decide)
 have hne_gL_arg0 := S_111.out.ne 0 4 rfl rfl (by decide)
 have hne_wL_gL := S_111.out.ne 5 0 rfl rfl (by decide)
 have hne_gL_wL := S_111.out.ne 0 5 rfl rfl (by decide)
 have hne_wE_gL := S_111.out.ne 6 0 rfl rfl (by decide)
 have hne_gL_wE := S_111.out.ne 0 6 rfl rfl (by decide)
 have S_112 := Lib.hid (S_111.out.alloc_at (b := w45.heap.size + 1) [.bool RE.s, (.slice A6g n6g c6g), (.slice A7g n7g c7g)] 32 (by first | rfl | simp))
 clear S_111
 have hne_gL_gE := S_112.out.ne 1 0 rfl rfl (by decide)
 have hne_gE_gL := S_112.out.ne 0 1 rfl rfl (by decide)
 have hne_x1_gE := S_112.out.ne 2 0 rfl rfl (by decide)
 have hne_gE_x1 := S_112.out.ne 0 2 rfl rfl (by decide)
 have hne_x0_gE := S_112.out.ne 3 0 rfl rfl (by decide)
 have hne_gE_x0 := S_112.out.ne 0 3 rfl rfl (by decide)
 have hne_arg1_gE := S_112.out.ne 4 0 rfl rfl (by decide)
 have hne_gE_arg1 := S_112.out.ne 0 4 rfl rfl (by decide)
 have hne_arg0_gE := S_112.out.ne 5 0 rfl rfl (by decide)
 have hne_gE_arg0 := S_112.out.ne 0 5 rfl rfl (by decide)
 have hne_wL_gE := S_112.out.ne 6 0 rfl rfl (by decide)
 have hne_gE_wL := S_112.out.ne 0 6 rfl rfl (by decide)
 have hne_wE_gE := S_112.out.ne 7 0 rfl rfl (by decide)
 have hne_gE_wE := S_112.out.ne 0 7 rfl rfl (by decide)
 have hk_gL_0_112 := S_112.out.cell 1 0 rfl rfl
 have hk_gL_1_112 := S_112.out.cell 1 1 rfl rfl
 have hk_gL_2_112 := S_112.out.cell 1 2 rfl rfl
 have hk_gL_3_112 := S_112.out.cell 1 3 rfl rfl
 have hk_gL_4_112 := S_112.out.cell 1 4 rfl rfl
 have hk_gL_5_112 := S_112.out.cell 1 5 rfl rfl
 have hk_gL_6_112 := S_112.out.cell 1 6 rfl rfl
 have hk_gL_7_112 := S_112.out.cell 1 7 rfl rfl
 have hk_gL_8_112 := S_112.out.cell 1 8 rfl rfl
 have hk_gL_9_112 := S_112.out.cell 1 9 rfl rfl
 have hk_gL_10_112 := S_112.out.cell 1 10 rfl rfl
 have hk_wL_0_112 := S_112.out.cell 6 0 rfl rfl
 have hk_wL_1_112 := S_112.out.cell 6 1 rfl rfl
 have hk_wL_2_112 := S_112.out.cell 6 2 rfl rfl
 have hk_wL_3_112 := S_112.out.cell 6 3 rfl rfl
 have hk_wL_4_112 := S_112.out.cell 6 4 rfl rfl
 have hk_wL_5_112 := S_112.out.cell 6 5 rfl rfl
 have hk_wL_6_112 := S_112.out.cell 6 6 rfl rfl
 have hk_wL_7_112 := S_112.out.cell 6 7 rfl rfl
 have hk_wL_8_112 := S_112.out.cell 6 8 rfl rfl
 have hk_wL_9_112 := S_112.out.cell 6 9 rfl rfl
 have hk_wL_10_112 := S_112.out.cell 6 10 rfl rfl
 have hk_gE_0_112 := S_112.out.cell 0 0 rfl rfl
 have hk_gE_1_112 := S_112.out.cell 0 1 rfl rfl
 have hk_gE_2_112 := S_112.out.cell 0 2 rfl rfl
 have hk_wE_0_112 := S_112.out.cell 7 0 rfl rfl
 have hk_wE_1_112 := S_112.out.cell 7 1 rfl rfl
 have hk_wE_2_112 := S_112.out.cell 7 2 rfl rfl
 as_aux_lemma =>
 go_wp2_with fail
 refine (eqLink_f RA RB RP RQ RR (.slice A0g n0g c0g) (.slice A1g n1g c1g) (.slice A2g n2g c2g) (.slice A3g n3g c3g) (.slice A4g n4g c4g) (.slice A5g n5g c5g) (.slice A0w n0w c0w) (.slice A1w n1w c1w) (.slice A2w n2w c2w) (.slice A3w n3w c3w) (.slice A4w n4w c4w) (.slice A5w n5w c5w) _ (S_112.out.lk 0 rfl).i (S_112.out.lk 4 rfl).i).mono ?_
 rintro e w46 ⟨rfl, hb⟩
 have S_113 := Lib.hid (S_112.out.call hb)
 clear S_112
 clear hb
 clear hk_gL_0_112 hk_gL_1_112 hk_gL_2_112 hk_gL_3_112 hk_gL_4_112 hk_gL_5_112 hk_gL_6_112 hk_gL_7_112 hk_gL_8_112 hk_gL_9_112 hk_gL_10_112 hk_wL_0_112 hk_wL_1_112 hk_wL_2_112 hk_wL_3_112 hk_wL_4_112 hk_wL_5_112 hk_wL_6_112 hk_wL_7_112 hk_wL_8_112 hk_wL_9_112 hk_wL_10_112 hk_gE_0_112 hk_gE_1_112 hk_gE_2_112 hk_wE_0_112 hk_wE_1_112 hk_wE_2_112
 have hk_gL_0_113 := S_113.out.cell 1 0 rfl rfl
 have hk_gL_1_113 := S_113.out.cell 1 1 rfl rfl
 have hk_gL_2_113 := S_113.out.cell 1 2 rfl rfl
 have hk_gL_3_113 := S_113.out.cell 1 3 rfl rfl
 have hk_gL_4_113 := S_113.out.cell 1 4 rfl rfl
 have hk_gL_5_113 := S_113.out.cell 1 5 rfl rfl
 have hk_gL_6_113 := S_113.out.cell 1 6 rfl rfl
 have hk_gL_7_113 := S_113.out.cell 1 7 rfl rfl
 have hk_gL_8_113 := S_113.out.cell 1 8 rfl rfl
 have hk_gL_9_113 := S_113.out.cell 1 9 rfl rfl
 have hk_gL_10_113 := S_113.out.cell 1 10 rfl rfl
 have hk_wL_0_113 := S_113.out.cell 6 0 rfl rfl
 have hk_wL_1_113 := S_113.out.cell 6 1 rfl rfl
 have hk_wL_2_113 := S_113.out.cell 6 2 rfl rfl
 have hk_wL_3_113 := S_113.out.cell 6 3 rfl rfl
 have hk_wL_4_113 := S_113.out.cell 6 4 rfl rfl
 have hk_wL_5_113 := S_113.out.cell 6 5 rfl rfl
 have hk_wL_6_113 := S_113.out.cell 6 6 rfl rfl
 have hk_wL_7_113 := S_113.out.cell 6 7 rfl rfl
 have hk_wL_8_113 := S_113.out.cell 6 8 rfl rfl
 have hk_wL_9_113 := S_113.out.cell 6 9 rfl rfl
 have hk_wL_10_113 := S_113.out.cell 6 10 rfl rfl
 have hk_gE_0_113 := S_113.out.cell 0 0 rfl rfl
 have hk_gE_1_113 := S_113.out.cell 0 1 rfl rfl
 have hk_gE_2_113 := S_113.out.cell 0 2 rfl rfl
 have hk_wE_0_113 := S_113.out.cell 7 0 rfl rfl
 have hk_wE_1_113 := S_113.out.cell 7 1 rfl rfl
 have hk_wE_2_113 := S_113.out.cell 7 2 rfl rfl
 go_wp2_with fail
 refine (eqRat_f RE (.slice A6g n6g c6g) (.slice A7g n7g c7g) _ (.slice A6w n6w c6w) (.slice A7w n7w c7w) (S_113.out.fr 1 0 rfl rfl rfl).i (S_113.out.fr 5 0 rfl rfl rfl).i).mono ?_
 rintro e w47 ⟨rfl, hb⟩
 have S_114 := Lib.hid (S_113.out.call hb)
 clear S_113
 clear hb
 clear hk_gL_0_113 hk_gL_1_113 hk_gL_2_113 hk_gL_3_113 hk_gL_4_113 hk_gL_5_113 hk_gL_6_113 hk_gL_7_113 hk_gL_8_113 hk_gL_9_113 hk_gL_10_113 hk_wL_0_113 hk_wL_1_113 hk_wL_2_113 hk_wL_3_113 hk_wL_4_113 hk_wL_5_113 hk_wL_6_113 hk_wL_7_113 hk_wL_8_113 hk_wL_9_113 hk_wL_10_113 hk_gE_0_113 hk_gE_1_113 hk_gE_2_113 hk_wE_0_113 hk_wE_1_113 hk_wE_2_113
 have hk_x0_0_114 := S_114.out.cell 3 0 rfl rfl
 have hk_x0_1_114 := S_114.out.cell 3 1 rfl rfl
 have hk_x0_2_114 := S_114.out.cell 3 2 rfl rfl
 have hk_x0_3_114 := S_114.out.cell 3 3 rfl rfl
 have hk_x0_4_114 := S_114.out.cell 3 4 rfl rfl
 have hk_x0_5_114 := S_114.out.cell 3 5 rfl rfl
 have hk_x0_6_114 := S_114.out.cell 3 6 rfl rfl
 have hk_x0_7_114 := S_114.out.cell 3 7 rfl rfl
 have hk_x0_8_114 := S_114.out.cell 3 8 rfl rfl
 have hk_x0_9_114 := S_114.out.cell 3 9 rfl rfl
 have hk_x0_10_114 := S_114.out.cell 3 10 rfl rfl
 have hk_arg0_0_114 := S_114.out.cell 5 0 rfl rfl
 have hk_arg0_1_114 := S_114.out.cell 5 1 rfl rfl
 have hk_arg0_2_114 := S_114.out.cell 5 2 rfl rfl
 have hk_arg0_3_114 := S_114.out.cell 5 3 rfl rfl
 have hk_arg0_4_114 := S_114.out.cell 5 4 rfl rfl
 have hk_arg0_5_114 := S_114.out.cell 5 5 rfl rfl
 have hk_arg0_6_114 := S_114.out.cell 5 6 rfl rfl
 have hk_arg0_7_114 := S_114.out.cell 5 7 rfl rfl
 have hk_arg0_8_114 := S_114.out.cell 5 8 rfl rfl
 have hk_arg0_9_114 := S_114.out.cell 5 9 rfl rfl
 have hk_arg0_10_114 := S_114.out.cell 5 10 rfl rfl
 as_aux_lemma =>
 go_wp2
 go_region_held3 (fun w' => w'.cell? ⟨w43.heap.size, 0, none⟩ = some (.int .i64 A0) ∧ w'.cell? ⟨w43.heap.size, 1, none⟩ = some (.int .i64 B0) ∧ w'.cell? ⟨w43.heap.size, 2, none⟩ = some (.bool P0.s) ∧ w'.cell? ⟨w43.heap.size, 3, none⟩ = some ((.slice A0x0 n0x0 c0x0)) ∧ w'.cell? ⟨w43.heap.size, 4, none⟩ = some ((.slice A1x0 n1x0 c1x0)) ∧ w'.cell? ⟨w43.heap.size, 5, none⟩ = some (.bool Q0.s) ∧ w'.cell? ⟨w43.heap.size, 6, none⟩ = some ((.slice A2x0 n2x0 c2x0)) ∧ w'.cell? ⟨w43.heap.size, 7, none⟩ = some ((.slice A3x0 n3x0 c3x0)) ∧ w'.cell? ⟨w43.heap.size, 8, none⟩ = some (.bool R0.s) ∧ w'.cell? ⟨w43.heap.size, 9, none⟩ = some ((.slice A4x0 n4x0 c4x0)) ∧ w'.cell? ⟨w43.heap.size, 10, none⟩ = some ((.slice A5x0 n5x0 c5x0)) ∧ w'.cell? ⟨W.heap.size, 0, none⟩ = some (.int .i64 A0) ∧ w'.cell? ⟨W.heap.size, 1, none⟩ = some (.int .i64 B0) ∧ w'.cell? ⟨W.heap.size, 2, none⟩ = some (.bool P0.s) ∧ w'.cell? ⟨W.heap.size, 3, none⟩ = some (p00) ∧ w'.cell? ⟨W.heap.size, 4, none⟩ = some (p01) ∧ w'.cell? ⟨W.heap.size, 5, none⟩ = some (.bool Q0.s) ∧ w'.cell? ⟨W.heap.size, 6, none⟩ = some (q00) ∧ w'.cell? ⟨W.heap.size, 7, none⟩ = some (q01) ∧ w'.cell? ⟨W.heap.size, 8, none⟩ = some (.bool R0.s) ∧ w'.cell? ⟨W.heap.size, 9, none⟩ = some (r00) ∧ w'.cell? ⟨W.heap.size, 10, none⟩ = some (r01)) (go_keep)
   (first
     | (go_at_call_of 7 (Value.agg #[Value.int .i64 A0,Value.int .i64 B0,Value.bool P0.s,p00,p01,Value.bool Q0.s,q00,q01,Value.bool R0.s,r00,r01])
        refine (toLink_f A0 B0 P0 Q0 R0 p00 p01 q00 q01 r00 r01 _ (S_114.out.drew.lkI HA0.out) HL0.out).mono ?_
        rintro e w48 ⟨v0_tt0, v1_tt0, v2_tt0, v3_tt0, v4_tt0, v5_tt0, rfl, ho, hb⟩
        obtain ⟨A0tt0, n0tt0, c0tt0, rfl⟩ := (ho.at_ 0 rfl).shape3
        obtain ⟨A1tt0, n1tt0, c1tt0, rfl⟩ := (ho.at_ 1 rfl).shape3
        obtain ⟨A2tt0, n2tt0, c2tt0, rfl⟩ := (ho.at_ 2 rfl).shape3
        obtain ⟨A3tt0, n3tt0, c3tt0, rfl⟩ := (ho.at_ 3 rfl).shape3
        obtain ⟨A4tt0, n4tt0, c4tt0, rfl⟩ := (ho.at_ 4 rfl).shape3
        obtain ⟨A5tt0, n5tt0, c5tt0, rfl⟩ := (ho.at_ 5 rfl).shape3
        have S_115 := Lib.hid (S_114.out.drew.rows ho hb)
        clear S_114 ho hb
        have hk_x0_0_115 := S_115.out.cell 3 0 rfl rfl
        have hk_x0_1_115 := S_115.out.cell 3 1 rfl rfl
        have hk_x0_2_115 := S_115.out.cell 3 2 rfl rfl
        have hk_x0_3_115 := S_115.out.cell 3 3 rfl rfl
        have hk_x0_4_115 := S_115.out.cell 3 4 rfl rfl
        have hk_x0_5_115 := S_115.out.cell 3 5 rfl rfl
        have hk_x0_6_115 := S_115.out.cell 3 6 rfl rfl
        have hk_x0_7_115 := S_115.out.cell 3 7 rfl rfl
        have hk_x0_8_115 := S_115.out.cell 3 8 rfl rfl
        have hk_x0_9_115 := S_115.out.cell 3 9 rfl rfl
        have hk_x0_10_115 := S_115.out.cell 3 10 rfl rfl
        have hk_arg0_0_115 := S_115.out.cell 5 0 rfl rfl
        have hk_arg0_1_115 := S_115.out.cell 5 1 rfl rfl
        have hk_arg0_2_115 := S_115.out.cell 5 2 rfl rfl
        have hk_arg0_3_115 := S_115.out.cell 5 3 rfl rfl
        have hk_arg0_4_115 := S_115.out.cell 5 4 rfl rfl
        have hk_arg0_5_115 := S_115.out.cell 5 5 rfl rfl
        have hk_arg0_6_115 := S_115.out.cell 5 6 rfl rfl
        have hk_arg0_7_115 := S_115.out.cell 5 7 rfl rfl
        have hk_arg0_8_115 := S_115.out.cell 5 8 rfl rfl
        have hk_arg0_9_115 := S_115.out.cell 5 9 rfl rfl
        have hk_arg0_10_115 := S_115.out.cell 5 10 rfl rfl)
     | (go_at_call 9
        refine (eqLink_f A0 B0 P0 Q0 R0 (.slice A0x0 n0x0 c0x0) (.slice A1x0 n1x0 c1x0) (.slice A2x0 n2x0 c2x0) (.slice A3x0 n3x0 c3x0) (.slice A4x0 n4x0 c4x0) (.slice A5x0 n5x0 c5x0) (.slice A0tt0 n0tt0 c0tt0) (.slice A1tt0 n1tt0 c1tt0) (.slice A2tt0 n2tt0 c2tt0) (.slice A3tt0 n3tt0 c3tt0) (.slice A4tt0 n4tt0 c4tt0) (.slice A5tt0 n5tt0 c5tt0) _ (S_115.out.lk 4 rfl).i (S_115.out.lk 0 rfl).i).mono ?_
        rintro e w49 ⟨rfl, hb⟩
        have S_116 := Lib.hid (S_115.out.call hb)
        clear S_115 hb
        have hk_x0_0_116 := S_116.out.cell 3 0 rfl rfl
        have hk_x0_1_116 := S_116.out.cell 3 1 rfl rfl
        have hk_x0_2_116 := S_116.out.cell 3 2 rfl rfl
        have hk_x0_3_116 := S_116.out.cell 3 3 rfl rfl
        have hk_x0_4_116 := S_116.out.cell 3 4 rfl rfl
        have hk_x0_5_116 := S_116.out.cell 3 5 rfl rfl
        have hk_x0_6_116 := S_116.out.cell 3 6 rfl rfl
        have hk_x0_7_116 := S_116.out.cell 3 7 rfl rfl
        have hk_x0_8_116 := S_116.out.cell 3 8 rfl rfl
        have hk_x0_9_116 := S_116.out.cell 3 9 rfl rfl
        have hk_x0_10_116 := S_116.out.cell 3 10 rfl rfl
        have hk_arg0_0_116 := S_116.out.cell 5 0 rfl rfl
        have hk_arg0_1_116 := S_116.out.cell 5 1 rfl rfl
        have hk_arg0_2_116 := S_116.out.cell 5 2 rfl rfl
        have hk_arg0_3_116 := S_116.out.cell 5 3 rfl rfl
        have hk_arg0_4_116 := S_116.out.cell 5 4 rfl rfl
        have hk_arg0_5_116 := S_116.out.cell 5 5 rfl rfl
        have hk_arg0_6_116 := S_116.out.cell 5 6 rfl rfl
        have hk_arg0_7_116 := S_116.out.cell 5 7 rfl rfl
        have hk_arg0_8_116 := S_116.out.cell 5 8 rfl rfl
        have hk_arg0_9_116 := S_116.out.cell 5 9 rfl rfl
        have hk_arg0_10_116 := S_116.out.cell 5 10 rfl rfl))
 have S_117 := Lib.hid (S_116.out.drop 0)
 clear S_116
 have hk_x1_0_117 := S_117.out.cell 2 0 rfl rfl
 have hk_x1_1_117 := S_117.out.cell 2 1 rfl rfl
 have hk_x1_2_117 := S_117.out.cell 2 2 rfl rfl
 have hk_x1_3_117 := S_117.out.cell 2 3 rfl rfl
 have hk_x1_4_117 := S_117.out.cell 2 4 rfl rfl
 have hk_x1_5_117 := S_117.out.cell 2 5 rfl rfl
 have hk_x1_6_117 := S_117.out.cell 2 6 rfl rfl
 have hk_x1_7_117 := S_117.out.cell 2 7 rfl rfl
 have hk_x1_8_117 := S_117.out.cell 2 8 rfl rfl
 have hk_x1_9_117 := S_117.out.cell 2 9 rfl rfl
 have hk_x1_10_117 := S_117.out.cell 2 10 rfl rfl
 have hk_arg1_0_117 := S_117.out.cell 4 0 rfl rfl
 have hk_arg1_1_117 := S_117.out.cell 4 1 rfl rfl
 have hk_arg1_2_117 := S_117.out.cell 4 2 rfl rfl
 have hk_arg1_3_117 := S_117.out.cell 4 3 rfl rfl
 have hk_arg1_4_117 := S_117.out.cell 4 4 rfl rfl
 have hk_arg1_5_117 := S_117.out.cell 4 5 rfl rfl
 have hk_arg1_6_117 := S_117.out.cell 4 6 rfl rfl
 have hk_arg1_7_117 := S_117.out.cell 4 7 rfl rfl
 have hk_arg1_8_117 := S_117.out.cell 4 8 rfl rfl
 have hk_arg1_9_117 := S_117.out.cell 4 9 rfl rfl
 have hk_arg1_10_117 := S_117.out.cell 4 10 rfl rfl
 as_aux_lemma =>
 go_wp2
 go_region_held3 (fun w' => w'.cell? ⟨w44.heap.size, 0, none⟩ = some (.int .i64 A1) ∧ w'.cell? ⟨w44.heap.size, 1, none⟩ = some (.int .i64 B1) ∧ w'.cell? ⟨w44.heap.size, 2, none⟩ = some (.bool P1.s) ∧ w'.cell? ⟨w44.heap.size, 3, none⟩ = some ((.slice A0x1 n0x1 c0x1)) ∧ w'.cell? ⟨w44.heap.size, 4, none⟩ = some ((.slice A1x1 n1x1 c1x1)) ∧ w'.cell? ⟨w44.heap.size, 5, none⟩ = some (.bool Q1.s) ∧ w'.cell? ⟨w44.heap.size, 6, none⟩ = some ((.slice A2x1 n2x1 c2x1)) ∧ w'.cell? ⟨w44.heap.size, 7, none⟩ = some ((.slice A3x1 n3x1 c3x1)) ∧ w'.cell? ⟨w44.heap.size, 8, none⟩ = some (.bool R1.s) ∧ w'.cell? ⟨w44.heap.size, 9, none⟩ = some ((.slice A4x1 n4x1 c4x1)) ∧ w'.cell? ⟨w44.heap.size, 10, none⟩ = some ((.slice A5x1 n5x1 c5x1)) ∧ w'.cell? ⟨W.heap.size + 1, 0, none⟩ = some (.int .i64 A1) ∧ w'.cell? ⟨W.heap.size + 1, 1, none⟩ = some (.int .i64 B1) ∧ w'.cell? ⟨W.heap.size + 1, 2, none⟩ = some (.bool P1.s) ∧ w'.cell? ⟨W.heap.size + 1, 3, none⟩ = some (p10) ∧ w'.cell? ⟨W.heap.size + 1, 4, none⟩ = some (p11) ∧ w'.cell? ⟨W.heap.size + 1, 5, none⟩ = some (.bool Q1.s) ∧ w'.cell? ⟨W.heap.size + 1, 6, none⟩ = some (q10) ∧ w'.cell? ⟨W.heap.size + 1, 7, none⟩ = some (q11) ∧ w'.cell? ⟨W.heap.size + 1, 8, none⟩ = some (.bool R1.s) ∧ w'.cell? ⟨W.heap.size + 1, 9, none⟩ = some (r10) ∧ w'.cell? ⟨W.heap.size + 1, 10, none⟩ = some (r11)) (go_keep)
   (first
     | (go_at_call_of 7 (Value.agg #[Value.int .i64 A1,Value.int .i64 B1,Value.bool P1.s,p10,p11,Value.bool Q1.s,q10,q11,Value.bool R1.s,r10,r11])
        refine (toLink_f A1 B1 P1 Q1 R1 p10 p11 q10 q11 r10 r11 _ (S_117.out.drew.lkI HA1.out) HL1.out).mono ?_
        rintro e w50 ⟨v0_tt1, v1_tt1, v2_tt1, v3_tt1, v4_tt1, v5_tt1, rfl, ho, hb⟩
        obtain ⟨A0tt1, n0tt1, c0tt1, rfl⟩ := (ho.at_ 0 rfl).shape3
        obtain ⟨A1tt1, n1tt1, c1tt1, rfl⟩ := (ho.at_ 1 rfl).shape3
        obtain ⟨A2tt1, n2tt1, c2tt1, rfl⟩ := (ho.at_ 2 rfl).shape3
        obtain ⟨A3tt1, n3tt1, c3tt1, rfl⟩ := (ho.at_ 3 rfl).shape3
        obtain ⟨A4tt1, n4tt1, c4tt1, rfl⟩ := (ho.at_ 4 rfl).shape3
        obtain ⟨A5tt1, n5tt1, c5tt1, rfl⟩ := (ho.at_ 5 rfl).shape3
        have S_118 := Lib.hid (S_117.out.drew.rows ho hb)
        clear S_117 ho hb
        have hk_x1_0_118 := S_118.out.cell 2 0 rfl rfl
        have hk_x1_1_118 := S_118.out.cell 2 1 rfl rfl
        have hk_x1_2_118 := S_118.out.cell 2 2 rfl rfl
        have hk_x1_3_118 := S_118.out.cell 2 3 rfl rfl
        have hk_x1_4_118 := S_118.out.cell 2 4 rfl rfl
        have hk_x1_5_118 := S_118.out.cell 2 5 rfl rfl
        have hk_x1_6_118 := S_118.out.cell 2 6 rfl rfl
        have hk_x1_7_118 := S_118.out.cell 2 7 rfl rfl
        have hk_x1_8_118 := S_118.out.cell 2 8 rfl rfl
        have hk_x1_9_118 := S_118.out.cell 2 9 rfl rfl
        have hk_x1_10_118 := S_118.out.cell 2 10 rfl rfl
        have hk_arg1_0_118 := S_118.out.cell 4 0 rfl rfl
        have hk_arg1_1_118 := S_118.out.cell 4 1 rfl rfl
        have hk_arg1_2_118 := S_118.out.cell 4 2 rfl rfl
        have hk_arg1_3_118 := S_118.out.cell 4 3 rfl rfl
        have hk_arg1_4_118 := S_118.out.cell 4 4 rfl rfl
        have hk_arg1_5_118 := S_118.out.cell 4 5 rfl rfl
        have hk_arg1_6_118 := S_118.out.cell 4 6 rfl rfl
        have hk_arg1_7_118 := S_118.out.cell 4 7 rfl rfl
        have hk_arg1_8_118 := S_118.out.cell 4 8 rfl rfl
        have hk_arg1_9_118 := S_118.out.cell 4 9 rfl rfl
        have hk_arg1_10_118 := S_118.out.cell 4 10 rfl rfl)
     | (go_at_call 9
        refine (eqLink_f A1 B1 P1 Q1 R1 (.slice A0x1 n0x1 c0x1) (.slice A1x1 n1x1 c1x1) (.slice A2x1 n2x1 c2x1) (.slice A3x1 n3x1 c3x1) (.slice A4x1 n4x1 c4x1) (.slice A5x1 n5x1 c5x1) (.slice A0tt1 n0tt1 c0tt1) (.slice A1tt1 n1tt1 c1tt1) (.slice A2tt1 n2tt1 c2tt1) (.slice A3tt1 n3tt1 c3tt1) (.slice A4tt1 n4tt1 c4tt1) (.slice A5tt1 n5tt1 c5tt1) _ (S_118.out.lk 3 rfl).i (S_118.out.lk 0 rfl).i).mono ?_
        rintro e w51 ⟨rfl, hb⟩
        have S_119 := Lib.hid (S_118.out.call hb)
        clear S_118 hb
        have hk_x1_0_119 := S_119.out.cell 2 0 rfl rfl
        have hk_x1_1_119 := S_119.out.cell 2 1 rfl rfl
        have hk_x1_2_119 := S_119.out.cell 2 2 rfl rfl
        have hk_x1_3_119 := S_119.out.cell 2 3 rfl rfl
        have hk_x1_4_119 := S_119.out.cell 2 4 rfl rfl
        have hk_x1_5_119 := S_119.out.cell 2 5 rfl rfl
        have hk_x1_6_119 := S_119.out.cell 2 6 rfl rfl
        have hk_x1_7_119 := S_119.out.cell 2 7 rfl rfl
        have hk_x1_8_119 := S_119.out.cell 2 8 rfl rfl
        have hk_x1_9_119 := S_119.out.cell 2 9 rfl rfl
        have hk_x1_10_119 := S_119.out.cell 2 10 rfl rfl
        have hk_arg1_0_119 := S_119.out.cell 4 0 rfl rfl
        have hk_arg1_1_119 := S_119.out.cell 4 1 rfl rfl
        have hk_arg1_2_119 := S_119.out.cell 4 2 rfl rfl
        have hk_arg1_3_119 := S_119.out.cell 4 3 rfl rfl
        have hk_arg1_4_119 := S_119.out.cell 4 4 rfl rfl
        have hk_arg1_5_119 := S_119.out.cell 4 5 rfl rfl
        have hk_arg1_6_119 := S_119.out.cell 4 6 rfl rfl
        have hk_arg1_7_119 := S_119.out.cell 4 7 rfl rfl
        have hk_arg1_8_119 := S_119.out.cell 4 8 rfl rfl
        have hk_arg1_9_119 := S_119.out.cell 4 9 rfl rfl
        have hk_arg1_10_119 := S_119.out.cell 4 10 rfl rfl))
 have S_120 := Lib.hid (S_119.out.drop 0)
 clear S_119
 have hk_x0_0_120 := S_120.out.cell 3 0 rfl rfl
 have hk_x0_1_120 := S_120.out.cell 3 1 rfl rfl
 have hk_x0_2_120 := S_120.out.cell 3 2 rfl rfl
 have hk_x0_3_120 := S_120.out.cell 3 3 rfl rfl
 have hk_x0_4_120 := S_120.out.cell 3 4 rfl rfl
 have hk_x0_5_120 := S_120.out.cell 3 5 rfl rfl
 have hk_x0_6_120 := S_120.out.cell 3 6 rfl rfl
 have hk_x0_7_120 := S_120.out.cell 3 7 rfl rfl
 have hk_x0_8_120 := S_120.out.cell 3 8 rfl rfl
 have hk_x0_9_120 := S_120.out.cell 3 9 rfl rfl
 have hk_x0_10_120 := S_120.out.cell 3 10 rfl rfl
 as_aux_lemma =>
 go_wp2_with fail
 obtain ⟨q0, hq0⟩ : ∃ z, lenL [((.slice A0x0 n0x0 c0x0), ints P0.xs), ((.slice A1x0 n1x0 c1x0), ints P0.ys), ((.slice A2x0 n2x0 c2x0), ints Q0.xs), ((.slice A3x0 n3x0 c3x0), ints Q0.ys), ((.slice A4x0 n4x0 c4x0), ints R0.xs), ((.slice A5x0 n5x0 c5x0), ints R0.ys)] = z := ⟨_, rfl⟩
 have hbq0 : q0 ≤ 2097152 := by rw [← hq0]; simp only [lenL, ints_len]; have h9 := HL0.out; simp only [Fr.len] at h9; omega
 have Hq0 := Lib.hid hq0
 clear hq0
 refine (markLink_f A0 B0 P0.s Q0.s R0.s (.slice A0x0 n0x0 c0x0) (.slice A1x0 n1x0 c1x0) (.slice A2x0 n2x0 c2x0) (.slice A3x0 n3x0 c3x0) (.slice A4x0 n4x0 c4x0) (.slice A5x0 n5x0 c5x0) (ints P0.xs) (ints P0.ys) (ints Q0.xs) (ints Q0.ys) (ints R0.xs) (ints R0.ys) _ (1) W.heap.size _ (by first | rfl | omega) (S_120.out.own 3 rfl) (by rw [show lenL _ = q0 from Hq0.out]; omega)).mono ?_
 rintro e w52 ⟨rfl, ho, ht⟩
 rw [show lenL _ = q0 from Hq0.out]
 have S_121 := Lib.hid (S_120.out.marked 3 rfl ho ht)
 clear S_120
 clear ho ht
 clear hk_x0_0_120 hk_x0_1_120 hk_x0_2_120 hk_x0_3_120 hk_x0_4_120 hk_x0_5_120 hk_x0_6_120 hk_x0_7_120 hk_x0_8_120 hk_x0_9_120 hk_x0_10_120
 have hk_x1_0_121 := S_121.out.cell 2 0 rfl rfl
 have hk_x1_1_121 := S_121.out.cell 2 1 rfl rfl
 have hk_x1_2_121 := S_121.out.cell 2 2 rfl rfl
 have hk_x1_3_121 := S_121.out.cell 2 3 rfl rfl
 have hk_x1_4_121 := S_121.out.cell 2 4 rfl rfl
 have hk_x1_5_121 := S_121.out.cell 2 5 rfl rfl
 have hk_x1_6_121 := S_121.out.cell 2 6 rfl rfl
 have hk_x1_7_121 := S_121.out.cell 2 7 rfl rfl
 have hk_x1_8_121 := S_121.out.cell 2 8 rfl rfl
 have hk_x1_9_121 := S_121.out.cell 2 9 rfl rfl
 have hk_x1_10_121 := S_121.out.cell 2 10 rfl rfl
 go_wp2_with fail
 obtain ⟨q1, hq1⟩ : ∃ z, lenL [((.slice A0x1 n0x1 c0x1), ints P1.xs), ((.slice A1x1 n1x1 c1x1), ints P1.ys), ((.slice A2x1 n2x1 c2x1), ints Q1.xs), ((.slice A3x1 n3x1 c3x1), ints Q1.ys), ((.slice A4x1 n4x1 c4x1), ints R1.xs), ((.slice A5x1 n5x1 c5x1), ints R1.ys)] = z := ⟨_, rfl⟩
 have hbq1 : q1 ≤ 2097152 := by rw [← hq1]; simp only [lenL, ints_len]; have h9 := HL1.out; simp only [Fr.len] at h9; omega
 have Hq1 := Lib.hid hq1
 clear hq1
 refine (markLink_f A1 B1 P1.s Q1.s R1.s (.slice A0x1 n0x1 c0x1) (.slice A1x1 n1x1 c1x1) (.slice A2x1 n2x1 c2x1) (.slice A3x1 n3x1 c3x1) (.slice A4x1 n4x1 c4x1) (.slice A5x1 n5x1 c5x1) (ints P1.xs) (ints P1.ys) (ints Q1.xs) (ints Q1.ys) (ints R1.xs) (ints R1.ys) _ (1 + q0) W.heap.size _ (by first | rfl | omega) (S_121.out.own 2 rfl) (by rw [show lenL _ = q1 from Hq1.out]; omega)).mono ?_
 rintro e w53 ⟨rfl, ho, ht⟩
 rw [show lenL _ = q1 from Hq1.out]
 have S_122 := Lib.hid (S_121.out.marked 2 rfl ho ht)
 clear S_121
 clear ho ht
 have S_123 := Lib.hid (S_122.out.drop 3)
 clear S_122
 have S_124 := Lib.hid (S_123.out.drop 2)
 clear S_123
 clear hk_x1_0_121 hk_x1_1_121 hk_x1_2_121 hk_x1_3_121 hk_x1_4_121 hk_x1_5_121 hk_x1_6_121 hk_x1_7_121 hk_x1_8_121 hk_x1_9_121 hk_x1_10_121
 have hk_gL_0_124 := S_124.out.cell 1 0 rfl rfl
 have hk_gL_1_124 := S_124.out.cell 1 1 rfl rfl
 have hk_gL_2_124 := S_124.out.cell 1 2 rfl rfl
 have hk_gL_3_124 := S_124.out.cell 1 3 rfl rfl
 have hk_gL_4_124 := S_124.out.cell 1 4 rfl rfl
 have hk_gL_5_124 := S_124.out.cell 1 5 rfl rfl
 have hk_gL_6_124 := S_124.out.cell 1 6 rfl rfl
 have hk_gL_7_124 := S_124.out.cell 1 7 rfl rfl
 have hk_gL_8_124 := S_124.out.cell 1 8 rfl rfl
 have hk_gL_9_124 := S_124.out.cell 1 9 rfl rfl
 have hk_gL_10_124 := S_124.out.cell 1 10 rfl rfl
 have hk_wL_0_124 := S_124.out.cell 6 0 rfl rfl
 have hk_wL_1_124 := S_124.out.cell 6 1 rfl rfl
 have hk_wL_2_124 := S_124.out.cell 6 2 rfl rfl
 have hk_wL_3_124 := S_124.out.cell 6 3 rfl rfl
 have hk_wL_4_124 := S_124.out.cell 6 4 rfl rfl
 have hk_wL_5_124 := S_124.out.cell 6 5 rfl rfl
 have hk_wL_6_124 := S_124.out.cell 6 6 rfl rfl
 have hk_wL_7_124 := S_124.out.cell 6 7 rfl rfl
 have hk_wL_8_124 := S_124.out.cell 6 8 rfl rfl
 have hk_wL_9_124 := S_124.out.cell 6 9 rfl rfl
 have hk_wL_10_124 := S_124.out.cell 6 10 rfl rfl
 have hk_gE_0_124 := S_124.out.cell 0 0 rfl rfl
 have hk_gE_1_124 := S_124.out.cell 0 1 rfl rfl
 have hk_gE_2_124 := S_124.out.cell 0 2 rfl rfl
 have hk_wE_0_124 := S_124.out.cell 7 0 rfl rfl
 have hk_wE_1_124 := S_124.out.cell 7 1 rfl rfl
 have hk_wE_2_124 := S_124.out.cell 7 2 rfl rfl
 as_aux_lemma =>
 go_wp2_with fail
 refine (eqLink_f RA RB RP RQ RR (.slice A0g n0g c0g) (.slice A1g n1g c1g) (.slice A2g n2g c2g) (.slice A3g n3g c3g) (.slice A4g n4g c4g) (.slice A5g n5g c5g) (.slice A0w n0w c0w) (.slice A1w n1w c1w) (.slice A2w n2w c2w) (.slice A3w n3w c3w) (.slice A4w n4w c4w) (.slice A5w n5w c5w) _ (S_124.out.lk 0 rfl).i (S_124.out.lk 2 rfl).i).mono ?_
 rintro e w54 ⟨rfl, hb⟩
 have S_125 := Lib.hid (S_124.out.call hb)
 clear S_124
 clear hb
 clear hk_gL_0_124 hk_gL_1_124 hk_gL_2_124 hk_gL_3_124 hk_gL_4_124 hk_gL_5_124 hk_gL_6_124 hk_gL_7_124 hk_gL_8_124 hk_gL_9_124 hk_gL_10_124 hk_wL_0_124 hk_wL_1_124 hk_wL_2_124 hk_wL_3_124 hk_wL_4_124 hk_wL_5_124 hk_wL_6_124 hk_wL_7_124 hk_wL_8_124 hk_wL_9_124 hk_wL_10_124 hk_gE_0_124 hk_gE_1_124 hk_gE_2_124 hk_wE_0_124 hk_wE_1_124 hk_wE_2_124
 have hk_gL_0_125 := S_125.out.cell 1 0 rfl rfl
 have hk_gL_1_125 := S_125.out.cell 1 1 rfl rfl
 have hk_gL_2_125 := S_125.out.cell 1 2 rfl rfl
 have hk_gL_3_125 := S_125.out.cell 1 3 rfl rfl
 have hk_gL_4_125 := S_125.out.cell 1 4 rfl rfl
 have hk_gL_5_125 := S_125.out.cell 1 5 rfl rfl
 have hk_gL_6_125 := S_125.out.cell 1 6 rfl rfl
 have hk_gL_7_125 := S_125.out.cell 1 7 rfl rfl
 have hk_gL_8_125 := S_125.out.cell 1 8 rfl rfl
 have hk_gL_9_125 := S_125.out.cell 1 9 rfl rfl
 have hk_gL_10_125 := S_125.out.cell 1 10 rfl rfl
 have hk_wL_0_125 := S_125.out.cell 6 0 rfl rfl
 have hk_wL_1_125 := S_125.out.cell 6 1 rfl rfl
 have hk_wL_2_125 := S_125.out.cell 6 2 rfl rfl
 have hk_wL_3_125 := S_125.out.cell 6 3 rfl rfl
 have hk_wL_4_125 := S_125.out.cell 6 4 rfl rfl
 have hk_wL_5_125 := S_125.out.cell 6 5 rfl rfl
 have hk_wL_6_125 := S_125.out.cell 6 6 rfl rfl
 have hk_wL_7_125 := S_125.out.cell 6 7 rfl rfl
 have hk_wL_8_125 := S_125.out.cell 6 8 rfl rfl
 have hk_wL_9_125 := S_125.out.cell 6 9 rfl rfl
 have hk_wL_10_125 := S_125.out.cell 6 10 rfl rfl
 have hk_gE_0_125 := S_125.out.cell 0 0 rfl rfl
 have hk_gE_1_125 := S_125.out.cell 0 1 rfl rfl
 have hk_gE_2_125 := S_125.out.cell 0 2 rfl rfl
 have hk_wE_0_125 := S_125.out.cell 7 0 rfl rfl
 have hk_wE_1_125 := S_125.out.cell 7 1 rfl rfl
 have hk_wE_2_125 := S_125.out.cell 7 2 rfl rfl
 go_wp2_with fail
 refine (eqRat_f RE (.slice A6g n6g c6g) (.slice A7g n7g c7g) _ (.slice A6w n6w c6w) (.slice A7w n7w c7w) (S_125.out.fr 1 0 rfl rfl rfl).i (S_125.out.fr 3 0 rfl rfl rfl).i).mono ?_
 rintro e w55 ⟨rfl, hb⟩
 have S_126 := Lib.hid (S_125.out.call hb)
 clear S_125
 clear hb
 clear hk_gL_0_125 hk_gL_1_125 hk_gL_2_125 hk_gL_3_125 hk_gL_4_125 hk_gL_5_125 hk_gL_6_125 hk_gL_7_125 hk_gL_8_125 hk_gL_9_125 hk_gL_10_125 hk_wL_0_125 hk_wL_1_125 hk_wL_2_125 hk_wL_3_125 hk_wL_4_125 hk_wL_5_125 hk_wL_6_125 hk_wL_7_125 hk_wL_8_125 hk_wL_9_125 hk_wL_10_125 hk_gE_0_125 hk_gE_1_125 hk_gE_2_125 hk_wE_0_125 hk_wE_1_125 hk_wE_2_125
 have hk_gL_0_126 := S_126.out.cell 1 0 rfl rfl
 have hk_gL_1_126 := S_126.out.cell 1 1 rfl rfl
 have hk_gL_2_126 := S_126.out.cell 1 2 rfl rfl
 have hk_gL_3_126 := S_126.out.cell 1 3 rfl rfl
 have hk_gL_4_126 := S_126.out.cell 1 4 rfl rfl
 have hk_gL_5_126 := S_126.out.cell 1 5 rfl rfl
 have hk_gL_6_126 := S_126.out.cell 1 6 rfl rfl
 have hk_gL_7_126 := S_126.out.cell 1 7 rfl rfl
 have hk_gL_8_126 := S_126.out.cell 1 8 rfl rfl
 have hk_gL_9_126 := S_126.out.cell 1 9 rfl rfl
 have hk_gL_10_126 := S_126.out.cell 1 10 rfl rfl
 as_aux_lemma =>
 go_wp2_with fail
 obtain ⟨m0, hm0⟩ : ∃ z, lenL [((.slice A0g n0g c0g), ints RP.xs), ((.slice A1g n1g c1g), ints RP.ys), ((.slice A2g n2g c2g), ints RQ.xs), ((.slice A3g n3g c3g), ints RQ.ys), ((.slice A4g n4g c4g), ints RR.xs), ((.slice A5g n5g c5g), ints RR.ys)] = z := ⟨_, rfl⟩
 have hbm0 : m0 ≤ 2097152 := by rw [← hm0]; simp only [lenL, ints_len]; have h9 := hlen; simp only [Fr.len] at h9; omega
 have Hm0 := Lib.hid hm0
 clear hm0
 refine (markLink_f RA RB RP.s RQ.s RR.s (.slice A0g n0g c0g) (.slice A1g n1g c1g) (.slice A2g n2g c2g) (.slice A3g n3g c3g) (.slice A4g n4g c4g) (.slice A5g n5g c5g) (ints RP.xs) (ints RP.ys) (ints RQ.xs) (ints RQ.ys) (ints RR.xs) (ints RR.ys) _ (1) W.heap.size _ (by first | rfl | omega) (S_126.out.own 0 rfl) (by rw [show lenL _ = m0 from Hm0.out]; omega)).mono ?_
 rintro e w56 ⟨rfl, ho, ht⟩
 rw [show lenL _ = m0 from Hm0.out]
 have S_127 := Lib.hid (S_126.out.marked 0 rfl ho ht)
 clear S_126
 clear ho ht
 clear hk_gL_0_126 hk_gL_1_126 hk_gL_2_126 hk_gL_3_126 hk_gL_4_126 hk_gL_5_126 hk_gL_6_126 hk_gL_7_126 hk_gL_8_126 hk_gL_9_126 hk_gL_10_126
 have hk_gE_0_127 := S_127.out.cell 0 0 rfl rfl
 have hk_gE_1_127 := S_127.out.cell 0 1 rfl rfl
 have hk_gE_2_127 := S_127.out.cell 0 2 rfl rfl
 go_wp2_with fail
 obtain ⟨m1, hm1⟩ : ∃ z, lenL [((.slice A6g n6g c6g), ints RE.xs), ((.slice A7g n7g c7g), ints RE.ys)] = z := ⟨_, rfl⟩
 have hbm1 : m1 ≤ 2097152 := by rw [← hm1]; simp only [lenL, ints_len]; have h9 := hlen; simp only [Fr.len] at h9; omega
 have Hm1 := Lib.hid hm1
 clear hm1
 refine (markRat_f (.slice A6g n6g c6g) (.slice A7g n7g c7g) _ RE.s (ints RE.xs) (ints RE.ys) (1 + m0) W.heap.size _ (by first | rfl | omega) (S_127.out.own 1 rfl) (by rw [show lenL _ = m1 from Hm1.out]; omega)).mono ?_
 rintro e w57 ⟨rfl, ho, ht⟩
 rw [show lenL _ = m1 from Hm1.out]
 have S_128 := Lib.hid (S_127.out.marked 1 rfl ho ht)
 clear S_127
 clear ho ht
 clear hk_gE_0_127 hk_gE_1_127 hk_gE_2_127
 have hk_gL_0_128 := S_128.out.cell 1 0 rfl rfl
 have hk_gL_1_128 := S_128.out.cell 1 1 rfl rfl
 have hk_gL_2_128 := S_128.out.cell 1 2 rfl rfl
 have hk_gL_3_128 := S_128.out.cell 1 3 rfl rfl
 have hk_gL_4_128 := S_128.out.cell 1 4 rfl rfl
 have hk_gL_5_128 := S_128.out.cell 1 5 rfl rfl
 have hk_gL_6_128 := S_128.out.cell 1 6 rfl rfl
 have hk_gL_7_128 := S_128.out.cell 1 7 rfl rfl
 have hk_gL_8_128 := S_128.out.cell 1 8 rfl rfl
 have hk_gL_9_128 := S_128.out.cell 1 9 rfl rfl
 have hk_gL_10_128 := S_128.out.cell 1 10 rfl rfl
 as_aux_lemma =>
 go_wp2_with fail
 refine (heldLink_f RA RB RP.s RQ.s RR.s (.slice A0g n0g c0g) (.slice A1g n1g c1g) (.slice A2g n2g c2g) (.slice A3g n3g c3g) (.slice A4g n4g c4g) (.slice A5g n5g c5g) (ints RP.xs) (ints RP.ys) (ints RQ.xs) (ints RQ.ys) (ints RR.xs) (ints RR.ys) _ (1) W.heap.size _ (by first | rfl | omega) (S_128.out.own 0 rfl) (by rw [show lenL _ = m0 from Hm0.out]; omega)).mono ?_
 rintro e w58 ⟨rfl, hb⟩
 rw [show lenL _ = m0 from Hm0.out]
 have S_129 := Lib.hid (S_128.out.call hb)
 clear S_128
 clear hb
 clear hk_gL_0_128 hk_gL_1_128 hk_gL_2_128 hk_gL_3_128 hk_gL_4_128 hk_gL_5_128 hk_gL_6_128 hk_gL_7_128 hk_gL_8_128 hk_gL_9_128 hk_gL_10_128
 have hk_gE_0_129 := S_129.out.cell 0 0 rfl rfl
 have hk_gE_1_129 := S_129.out.cell 0 1 rfl rfl
 have hk_gE_2_129 := S_129.out.cell 0 2 rfl rfl
 go_wp2_with fail
 refine (heldRat_f (.slice A6g n6g c6g) (.slice A7g n7g c7g) _ RE.s (ints RE.xs) (ints RE.ys) (1 + m0) W.heap.size _ (by first | rfl | omega) (S_129.out.own 1 rfl) (by rw [show lenL _ = m1 from Hm1.out]; omega)).mono ?_
 rintro e w59 ⟨rfl, hb⟩
 rw [show lenL _ = m1 from Hm1.out]
 have S_130 := Lib.hid (S_129.out.call hb)
 clear S_129
 clear hb
 clear hk_gE_0_129 hk_gE_1_129 hk_gE_2_129
 have hk_arg0_0_130 := S_130.out.cell 5 0 rfl rfl
 have hk_arg0_1_130 := S_130.out.cell 5 1 rfl rfl
 have hk_arg0_2_130 := S_130.out.cell 5 2 rfl rfl
 have hk_arg0_3_130 := S_130.out.cell 5 3 rfl rfl
 have hk_arg0_4_130 := S_130.out.cell 5 4 rfl rfl
 have hk_arg0_5_130 := S_130.out.cell 5 5 rfl rfl
 have hk_arg0_6_130 := S_130.out.cell 5 6 rfl rfl
 have hk_arg0_7_130 := S_130.out.cell 5 7 rfl rfl
 have hk_arg0_8_130 := S_130.out.cell 5 8 rfl rfl
 have hk_arg0_9_130 := S_130.out.cell 5 9 rfl rfl
 have hk_arg0_10_130 := S_130.out.cell 5 10 rfl rfl
 have hk_arg1_0_130 := S_130.out.cell 4 0 rfl rfl
 have hk_arg1_1_130 := S_130.out.cell 4 1 rfl rfl
 have hk_arg1_2_130 := S_130.out.cell 4 2 rfl rfl
 have hk_arg1_3_130 := S_130.out.cell 4 3 rfl rfl
 have hk_arg1_4_130 := S_130.out.cell 4 4 rfl rfl
 have hk_arg1_5_130 := S_130.out.cell 4 5 rfl rfl
 have hk_arg1_6_130 := S_130.out.cell 4 6 rfl rfl
 have hk_arg1_7_130 := S_130.out.cell 4 7 rfl rfl
 have hk_arg1_8_130 := S_130.out.cell 4 8 rfl rfl
 have hk_arg1_9_130 := S_130.out.cell 4 9 rfl rfl
 have hk_arg1_10_130 := S_130.out.cell 4 10 rfl rfl
 as_aux_lemma =>
 go_upto_region 35 with fail
 clear hk_arg0_0_130 hk_arg0_1_130 hk_arg0_2_130 hk_arg0_3_130 hk_arg0_4_130 hk_arg0_5_130 hk_arg0_6_130 hk_arg0_7_130 hk_arg0_8_130 hk_arg0_9_130 hk_arg0_10_130 hk_arg1_0_130 hk_arg1_1_130 hk_arg1_2_130 hk_arg1_3_130 hk_arg1_4_130 hk_arg1_5_130 hk_arg1_6_130 hk_arg1_7_130 hk_arg1_8_130 hk_arg1_9_130 hk_arg1_10_130
 go_cut [17,18,19] (fun ptr ptr2 vb wx => ∃ blk blk2 A0h n0h c0h A1h n1h c1h A2h n2h c2h A3h n3h c3h A4h n4h c4h A5h n5h c5h A6h n6h c6h A7h n7h c7h,ptr = .pointer (some ⟨blk,0,none⟩) ∧ ptr2 = .pointer (some ⟨blk2,0,none⟩) ∧ vb = .bool ok ∧ St W wx [(w45.heap.size + 1,[.bool RE.s,(.slice A6g n6g c6g),(.slice A7g n7g c7g)]),(w45.heap.size,[.int .i64 RA,.int .i64 RB,.bool RP.s,(.slice A0g n0g c0g),(.slice A1g n1g c1g),.bool RQ.s,(.slice A2g n2g c2g),(.slice A3g n3g c3g),.bool RR.s,(.slice A4g n4g c4g),(.slice A5g n5g c5g)]),(w44.heap.size,[.int .i64 A1,.int .i64 B1,.bool P1.s,(.slice A0x1 n0x1 c0x1),(.slice A1x1 n1x1 c1x1),.bool Q1.s,(.slice A2x1 n2x1 c2x1),(.slice A3x1 n3x1 c3x1),.bool R1.s,(.slice A4x1 n4x1 c4x1),(.slice A5x1 n5x1 c5x1)]),(w43.heap.size,[.int .i64 A0,.int .i64 B0,.bool P0.s,(.slice A0x0 n0x0 c0x0),(.slice A1x0 n1x0 c1x0),.bool Q0.s,(.slice A2x0 n2x0 c2x0),(.slice A3x0 n3x0 c3x0),.bool R0.s,(.slice A4x0 n4x0 c4x0),(.slice A5x0 n5x0 c5x0)]),(W.heap.size + 1,[.int .i64 A1,.int .i64 B1,.bool P1.s,p10,p11,.bool Q1.s,q10,q11,.bool R1.s,r10,r11]),(W.heap.size,[.int .i64 A0,.int .i64 B0,.bool P0.s,p00,p01,.bool Q0.s,q00,q01,.bool R0.s,r00,r01]),(b_wL,[.int .i64 RA,.int .i64 RB,.bool RP.s,(.slice A0w n0w c0w),(.slice A1w n1w c1w),.bool RQ.s,(.slice A2w n2w c2w),(.slice A3w n3w c3w),.bool RR.s,(.slice A4w n4w c4w),(.slice A5w n5w c5w)]),(b_wE,[.bool RE.s,(.slice A6w n6w c6w),(.slice A7w n7w c7w)]),(blk,[.int .i64 RA,.int .i64 RB,.bool RP.s,(.slice A0h n0h c0h),(.slice A1h n1h c1h),.bool RQ.s,(.slice A2h n2h c2h),(.slice A3h n3h c3h),.bool RR.s,(.slice A4h n4h c4h),(.slice A5h n5h c5h)]),(blk2,[.bool RE.s,(.slice A6h n6h c6h),(.slice A7h n7h c7h)])] [rowsK RP RQ RR (.slice A0h n0h c0h) (.slice A1h n1h c1h) (.slice A2h n2h c2h) (.slice A3h n3h c3h) (.slice A4h n4h c4h) (.slice A5h n5h c5h),[((.slice A6h n6h c6h),ints RE.xs),((.slice A7h n7h c7h),ints RE.ys)],markL (1) [((.slice A0g n0g c0g),ints RP.xs),((.slice A1g n1g c1g),ints RP.ys),((.slice A2g n2g c2g),ints RQ.xs),((.slice A3g n3g c3g),ints RQ.ys),((.slice A4g n4g c4g),ints RR.xs),((.slice A5g n5g c5g),ints RR.ys)],markL (1 + m0) [((.slice A6g n6g c6g),ints RE.xs),((.slice A7g n7g c7g),ints RE.ys)],rowsK RP RQ RR (.slice A0w n0w c0w) (.slice A1w n1w c1w) (.slice A2w n2w c2w) (.slice A3w n3w c3w) (.slice A4w n4w c4w) (.slice A5w n5w c5w),[((.slice A6w n6w c6w),ints RE.xs),((.slice A7w n7w c7w),ints RE.ys)]])
 case first =>
   have mkS_131 : ∀ (w' : World) (bs' : List (Nat × List Value)) (cs' : List Chunk),St W w' ((w45.heap.size + 1,[.bool RE.s,(.slice A6g n6g c6g),(.slice A7g n7g c7g)]) :: (w45.heap.size,[.int .i64 RA,.int .i64 RB,.bool RP.s,(.slice A0g n0g c0g),(.slice A1g n1g c1g),.bool RQ.s,(.slice A2g n2g c2g),(.slice A3g n3g c3g),.bool RR.s,(.slice A4g n4g c4g),(.slice A5g n5g c5g)]) :: (w44.heap.size,[.int .i64 A1,.int .i64 B1,.bool P1.s,(.slice A0x1 n0x1 c0x1),(.slice A1x1 n1x1 c1x1),.bool Q1.s,(.slice A2x1 n2x1 c2x1),(.slice A3x1 n3x1 c3x1),.bool R1.s,(.slice A4x1 n4x1 c4x1),(.slice A5x1 n5x1 c5x1)]) :: (w43.heap.size,[.int .i64 A0,.int .i64 B0,.bool P0.s,(.slice A0x0 n0x0 c0x0),(.slice A1x0 n1x0 c1x0),.bool Q0.s,(.slice A2x0 n2x0 c2x0),(.slice A3x0 n3x0 c3x0),.bool R0.s,(.slice A4x0 n4x0 c4x0),(.slice A5x0 n5x0 c5x0)]) :: (W.heap.size + 1,[.int .i64 A1,.int .i64 B1,.bool P1.s,p10,p11,.bool Q1.s,q10,q11,.bool R1.s,r10,r11]) :: (W.heap.size,[.int .i64 A0,.int .i64 B0,.bool P0.s,p00,p01,.bool Q0.s,q00,q01,.bool R0.s,r00,r01]) :: (b_wL,[.int .i64 RA,.int .i64 RB,.bool RP.s,(.slice A0w n0w c0w),(.slice A1w n1w c1w),.bool RQ.s,(.slice A2w n2w c2w),(.slice A3w n3w c3w),.bool RR.s,(.slice A4w n4w c4w),(.slice A5w n5w c5w)]) :: (b_wE,[.bool RE.s,(.slice A6w n6w c6w),(.slice A7w n7w c7w)]) :: bs') cs' → w'.cell? ⟨W.heap.size + 1,0,none⟩ = some (.int .i64 A1) ∧ w'.cell? ⟨W.heap.size + 1,1,none⟩ = some (.int .i64 B1) ∧ w'.cell? ⟨W.heap.size + 1,2,none⟩ = some (.bool P1.s) ∧ w'.cell? ⟨W.heap.size + 1,3,none⟩ = some (p10) ∧ w'.cell? ⟨W.heap.size + 1,4,none⟩ = some (p11) ∧ w'.cell? ⟨W.heap.size + 1,5,none⟩ = some (.bool Q1.s) ∧ w'.cell? ⟨W.heap.size + 1,6,none⟩ = some (q10) ∧ w'.cell? ⟨W.heap.size + 1,7,none⟩ = some (q11) ∧ w'.cell? ⟨W.heap.size + 1,8,none⟩ = some (.bool R1.s) ∧ w'.cell? ⟨W.heap.size + 1,9,none⟩ = some (r10) ∧ w'.cell? ⟨W.heap.size + 1,10,none⟩ = some (r11) ∧ w'.cell? ⟨W.heap.size,0,none⟩ = some (.int .i64 A0) ∧ w'.cell? ⟨W.heap.size,1,none⟩ = some (.int .i64 B0) ∧ w'.cell? ⟨W.heap.size,2,none⟩ = some (.bool P0.s) ∧ w'.cell? ⟨W.heap.size,3,none⟩ = some (p00) ∧ w'.cell? ⟨W.heap.size,4,none⟩ = some (p01) ∧ w'.cell? ⟨W.heap.size,5,none⟩ = some (.bool Q0.s) ∧ w'.cell? ⟨W.heap.size,6,none⟩ = some (q00) ∧ w'.cell? ⟨W.heap.size,7,none⟩ = some (q01) ∧ w'.cell? ⟨W.heap.size,8,none⟩ = some (.bool R0.s) ∧ w'.cell? ⟨W.heap.size,9,none⟩ = some (r00) ∧ w'.cell? ⟨W.heap.size,10,none⟩ = some (r01) := fun w' bs' cs' h => ⟨h.cell 4 0 rfl rfl,h.cell 4 1 rfl rfl,h.cell 4 2 rfl rfl,h.cell 4 3 rfl rfl,h.cell 4 4 rfl rfl,h.cell 4 5 rfl rfl,h.cell 4 6 rfl rfl,h.cell 4 7 rfl rfl,h.cell 4 8 rfl rfl,h.cell 4 9 rfl rfl,h.cell 4 10 rfl rfl,h.cell 5 0 rfl rfl,h.cell 5 1 rfl rfl,h.cell 5 2 rfl rfl,h.cell 5 3 rfl rfl,h.cell 5 4 rfl rfl,h.cell 5 5 rfl rfl,h.cell 5 6 rfl rfl,h.cell 5 7 rfl rfl,h.cell 5 8 rfl rfl,h.cell 5 9 rfl rfl,h.cell 5 10 rfl rfl⟩
   refine (fun {G goal : Prop} (h1 : (True → G) → goal) (h2 : G) => h1 (fun _ => h2)) (G := ?G131) (fun FIN => ?_) ?_
   case refine_1 =>
     as_aux_lemma =>
     have SS := Lib.hid S_130.out.drew
     refine wp_region_noPanic ?_
     refine wp_region_held_drew (S := (fun w' => w'.cell? ⟨W.heap.size + 1, 0, none⟩ = some (.int .i64 A1) ∧ w'.cell? ⟨W.heap.size + 1, 1, none⟩ = some (.int .i64 B1) ∧ w'.cell? ⟨W.heap.size + 1, 2, none⟩ = some (.bool P1.s) ∧ w'.cell? ⟨W.heap.size + 1, 3, none⟩ = some (p10) ∧ w'.cell? ⟨W.heap.size + 1, 4, none⟩ = some (p11) ∧ w'.cell? ⟨W.heap.size + 1, 5, none⟩ = some (.bool Q1.s) ∧ w'.cell? ⟨W.heap.size + 1, 6, none⟩ = some (q10) ∧ w'.cell? ⟨W.heap.size + 1, 7, none⟩ = some (q11) ∧ w'.cell? ⟨W.heap.size + 1, 8, none⟩ = some (.bool R1.s) ∧ w'.cell? ⟨W.heap.size + 1, 9, none⟩ = some (r10) ∧ w'.cell? ⟨W.heap.size + 1, 10, none⟩ = some (r11) ∧ w'.cell? ⟨W.heap.size, 0, none⟩ = some (.int .i64 A0) ∧ w'.cell? ⟨W.heap.size, 1, none⟩ = some (.int .i64 B0) ∧ w'.cell? ⟨W.heap.size, 2, none⟩ = some (.bool P0.s) ∧ w'.cell? ⟨W.heap.size, 3, none⟩ = some (p00) ∧ w'.cell? ⟨W.heap.size, 4, none⟩ = some (p01) ∧ w'.cell? ⟨W.heap.size, 5, none⟩ = some (.bool Q0.s) ∧ w'.cell? ⟨W.heap.size, 6, none⟩ = some (q00) ∧ w'.cell? ⟨W.heap.size, 7, none⟩ = some (q01) ∧ w'.cell? ⟨W.heap.size, 8, none⟩ = some (.bool R0.s) ∧ w'.cell? ⟨W.heap.size, 9, none⟩ = some (r00) ∧ w'.cell? ⟨W.heap.size, 10, none⟩ = some (r01))) (by kernel_rfl) ?_ (fun hH => ?_)
     · exact mkS_131 _ _ _ SS.out
     generalize hwd : World.drew _ = wd at SS hH ⊢
     clear hwd
     refine tkH 0 ?_ ⟨some 120,.load 28 (.tmp 2),28,"exact.go:4569",#[],none⟩ ?_ ?_
     rotate_left
     · intro w9 hS; (try dsimp only at hS); go_simp; try with_reducible rfl
     try simp only [pm, s0, sS]
     refine tkH 2 ?_ ⟨some 122,.load 28 (.tmp 3),28,"exact.go:4569",#[],none⟩ ?_ ?_
     rotate_left
     · intro w9 hS; (try dsimp only at hS); go_simp; try with_reducible rfl
     try simp only [pm, s0, sS]
     refine wpAnyH_ready (rs := [1, 9, 10]) (by kernel_rfl) (by simp) ?_
     refine AllReadyH.cons (o := ⟨some 121,.call { callee := .value (.func 7),args := #[.tmp 120],argTypes := #[28] },34,"exact.go:4569",#[⟨0,.data⟩],none⟩) rfl ?_ ?_
     intro K hK
     go_simp
     go_at_call_of 7 (Value.agg #[Value.int .i64 A0,Value.int .i64 B0,Value.bool P0.s,p00,p01,Value.bool Q0.s,q00,q01,Value.bool R0.s,r00,r01])
     refine (toLink_f A0 B0 P0 Q0 R0 p00 p01 q00 q01 r00 r01 _ (SS.out.lkI HA0.out) HL0.out).mono ?_
     rintro e wc_0 ⟨v0_ya, v1_ya, v2_ya, v3_ya, v4_ya, v5_ya, rfl, ho, hb⟩
     obtain ⟨A0ya, n0ya, c0ya, rfl⟩ := (ho.at_ 0 rfl).shape3
     obtain ⟨A1ya, n1ya, c1ya, rfl⟩ := (ho.at_ 1 rfl).shape3
     obtain ⟨A2ya, n2ya, c2ya, rfl⟩ := (ho.at_ 2 rfl).shape3
     obtain ⟨A3ya, n3ya, c3ya, rfl⟩ := (ho.at_ 3 rfl).shape3
     obtain ⟨A4ya, n4ya, c4ya, rfl⟩ := (ho.at_ 4 rfl).shape3
     obtain ⟨A5ya, n5ya, c5ya, rfl⟩ := (ho.at_ 5 rfl).shape3
     replace SS := Lib.hid (SS.out.rows ho hb)
     clear ho hb
     refine hK.out _ _ (mkS_131 _ _ _ SS.out) (fun hH => ?_)
     clear hK K
     try simp only [pm, s0, sS]
     refine wpAnyH_ready (rs := [3, 9, 10]) (by kernel_rfl) (by simp) ?_
     refine AllReadyH.cons (o := ⟨some 123,.call { callee := .value (.func 7),args := #[.tmp 122],argTypes := #[28] },34,"exact.go:4569",#[⟨2,.data⟩,⟨1,.chain⟩],none⟩) rfl ?_ ?_
     intro K hK
     go_simp
     go_at_call_of 7 (Value.agg #[Value.int .i64 A1,Value.int .i64 B1,Value.bool P1.s,p10,p11,Value.bool Q1.s,q10,q11,Value.bool R1.s,r10,r11])
     refine (toLink_f A1 B1 P1 Q1 R1 p10 p11 q10 q11 r10 r11 _ (SS.out.lkI HA1.out) HL1.out).mono ?_
     rintro e wc_1 ⟨v0_yb, v1_yb, v2_yb, v3_yb, v4_yb, v5_yb, rfl, ho, hb⟩
     obtain ⟨A0yb, n0yb, c0yb, rfl⟩ := (ho.at_ 0 rfl).shape3
     obtain ⟨A1yb, n1yb, c1yb, rfl⟩ := (ho.at_ 1 rfl).shape3
     obtain ⟨A2yb, n2yb, c2yb, rfl⟩ := (ho.at_ 2 rfl).shape3
     obtain ⟨A3yb, n3yb, c3yb, rfl⟩ := (ho.at_ 3 rfl).shape3
     obtain ⟨A4yb, n4yb, c4yb, rfl⟩ := (ho.at_ 4 rfl).shape3
     obtain ⟨A5yb, n5yb, c5yb, rfl⟩ := (ho.at_ 5 rfl).shape3
     replace SS := Lib.hid (SS.out.rows ho hb)
     clear ho hb
     refine hK.out _ _ (mkS_131 _ _ _ SS.out) (fun hH => ?_)
     clear hK K
     try simp only [pm, s0, sS]
     refine wpAnyH_ready (rs := [4, 9, 10]) (by kernel_rfl) (by simp) ?_
     refine AllReadyH.cons (o := ⟨some 124,.call { callee := .value (.func 8),args := #[.tmp 121,.tmp 123],argTypes := #[34,34] },35,"exact.go:4569",#[⟨1,.data⟩,⟨3,.data⟩,⟨3,.chain⟩],none⟩) rfl ?_ ?_
     intro K hK
     go_simp
     go_at_call 8
     refine (HI.out (.slice A0ya n0ya c0ya) (.slice A1ya n1ya c1ya) (.slice A2ya n2ya c2ya) (.slice A3ya n3ya c3ya) (.slice A4ya n4ya c4ya) (.slice A5ya n5ya c5ya) (.slice A0yb n0yb c0yb) (.slice A1yb n1yb c1yb) (.slice A2yb n2yb c2yb) (.slice A3yb n3yb c3yb) (.slice A4yb n4yb c4yb) (.slice A5yb n5yb c5yb) _ (SS.out.lk 1 rfl) (SS.out.lk 0 rfl)).mono ?_
     rintro e wc_9 ⟨v0_h, v1_h, v2_h, v3_h, v4_h, v5_h, v6_h, v7_h, rfl, ho, hb⟩
     obtain ⟨A0h, n0h, c0h, rfl⟩ := (ho.at_ 0 rfl).shape3
     obtain ⟨A1h, n1h, c1h, rfl⟩ := (ho.at_ 1 rfl).shape3
     obtain ⟨A2h, n2h, c2h, rfl⟩ := (ho.at_ 2 rfl).shape3
     obtain ⟨A3h, n3h, c3h, rfl⟩ := (ho.at_ 3 rfl).shape3
     obtain ⟨A4h, n4h, c4h, rfl⟩ := (ho.at_ 4 rfl).shape3
     obtain ⟨A5h, n5h, c5h, rfl⟩ := (ho.at_ 5 rfl).shape3
     obtain ⟨A6h, n6h, c6h, rfl⟩ := (ho.at_ 6 rfl).shape3
     obtain ⟨A7h, n7h, c7h, rfl⟩ := (ho.at_ 7 rfl).shape3
     replace SS := Lib.hid (SS.out.rows ho hb)
     clear ho hb
     refine hK.out _ _ (mkS_131 _ _ _ SS.out) (fun hH => ?_)
     clear hK K
     try simp only [pm, s0, sS]
     refine tkH 5 ?_ ⟨some 119,.move (.tmp 124),35,"exact.go:4569",#[⟨4,.data⟩],none⟩ ?_ ?_
     rotate_left
     · intro w9 hS; (try dsimp only at hS); go_simp; try with_reducible rfl
     try simp only [pm, s0, sS]
     refine tkH 6 ?_ ⟨some 125,.extract (.tmp 119) 0,34,"exact.go:4569",#[⟨5,.data⟩],none⟩ ?_ ?_
     rotate_left
     · intro w9 hS; (try dsimp only at hS); go_simp; try with_reducible rfl
     try simp only [pm, s0, sS]
     refine tkH 7 ?_ ⟨some 126,.extract (.tmp 119) 1,32,"exact.go:4569",#[⟨5,.data⟩,⟨11,.gcOnly .lateStores⟩],none⟩ ?_ ?_
     rotate_left
     · intro w9 hS; (try dsimp only at hS); go_simp; try with_reducible rfl
     try simp only [pm, s0, sS]
     refine tkH 8 ?_ ⟨some 127,.extract (.tmp 119) 2,4,"exact.go:4569",#[⟨5,.data⟩,⟨12,.gcOnly .lateStores⟩],none⟩ ?_ ?_
     rotate_left
     · intro w9 hS; (try dsimp only at hS); go_simp; try with_reducible rfl
     try simp only [pm, s0, sS]
     refine wpAnyH_ready (rs := [9, 10]) (by kernel_rfl) (by simp) ?_
     refine AllReadyH.cons (o := ⟨some 17,.alloc 34,0,"exact.go:4569",#[],none⟩) rfl ?_ ?_
     intro K hK
     go_simp
     replace SS := Lib.hid (SS.out.allocE [.int .i64 0,.int .i64 0,.bool false,.slice none 0 0,.slice none 0 0,.bool false,.slice none 0 0,.slice none 0 0,.bool false,.slice none 0 0,.slice none 0 0] 34)
     simp only [List.cons_append, List.nil_append] at SS
     generalize hbk : Array.size (World.heap wc_9) = bkL at SS ⊢
     clear hbk
     generalize hwa : World.alloc _ _ = waL at SS ⊢
     clear hwa
     refine hK.out _ _ (mkS_131 _ _ _ SS.out) (fun hH => ?_)
     clear hK K
     try simp only [pm, s0, sS]
     refine wpAnyH_ready (rs := [10]) (by kernel_rfl) (by simp) ?_
     refine AllReadyH.cons (o := ⟨some 18,.alloc 32,0,"exact.go:4569",#[],none⟩) rfl ?_ ?_
     intro K hK
     go_simp
     replace SS := Lib.hid (SS.out.allocE [.bool false,.slice none 0 0,.slice none 0 0] 32)
     simp only [List.cons_append, List.nil_append] at SS
     generalize hbk : Array.size (World.heap waL) = bkE at SS ⊢
     clear hbk
     generalize hwa : World.alloc _ _ = waE at SS ⊢
     clear hwa
     refine hK.out _ _ (mkS_131 _ _ _ SS.out) (fun hH => ?_)
     clear hK K
     try simp only [pm, s0, sS]
     clear hH
     revert SS; revert waE; revert bkE; revert bkL; revert A0h n0h c0h A1h n1h c1h A2h n2h c2h A3h n3h c3h A4h n4h c4h A5h n5h c5h A6h n6h c6h A7h n7h c7h; revert A0yb n0yb c0yb A1yb n1yb c1yb A2yb n2yb c2yb A3yb n3yb c3yb A4yb n4yb c4yb A5yb n5yb c5yb; revert A0ya n0ya c0ya A1ya n1ya c1ya A2ya n2ya c2ya A3ya n3ya c3ya A4ya n4ya c4ya A5ya n5ya c5ya
     exact FIN trivial
     exact AllReadyH.nil
     refine AllReadyH.cons (o := ⟨some 18,.alloc 32,0,"exact.go:4569",#[],none⟩) rfl ?_ ?_
     intro K hK
     go_simp
     replace SS := Lib.hid (SS.out.allocE [.bool false,.slice none 0 0,.slice none 0 0] 32)
     simp only [List.cons_append, List.nil_append] at SS
     generalize hbk : Array.size (World.heap wc_9) = bkE at SS ⊢
     clear hbk
     generalize hwa : World.alloc _ _ = waE at SS ⊢
     clear hwa
     refine hK.out _ _ (mkS_131 _ _ _ SS.out) (fun hH => ?_)
     clear hK K
     try simp only [pm, s0, sS]
     refine wpAnyH_ready (rs := [9]) (by kernel_rfl) (by simp) ?_
     refine AllReadyH.cons (o := ⟨some 17,.alloc 34,0,"exact.go:4569",#[],none⟩) rfl ?_ ?_
     intro K hK
     go_simp
     replace SS := Lib.hid (SS.out.allocE [.int .i64 0,.int .i64 0,.bool false,.slice none 0 0,.slice none 0 0,.bool false,.slice none 0 0,.slice none 0 0,.bool false,.slice none 0 0,.slice none 0 0] 34)
     simp only [List.cons_append, List.nil_append] at SS
     generalize hbk : Array.size (World.heap waE) = bkL at SS ⊢
     clear hbk
     generalize hwa : World.alloc _ _ = waL at SS ⊢
     clear hwa
     refine hK.out _ _ (mkS_131 _ _ _ SS.out) (fun hH => ?_)
     clear hK K
     try simp only [pm, s0, sS]
     replace SS := Lib.hid (SS.out.perm (List.Perm.cons _ (List.Perm.cons _ (List.Perm.cons _ (List.Perm.cons _ (List.Perm.cons _ (List.Perm.cons _ (List.Perm.cons _ (List.Perm.cons _ (List.Perm.swap _ _ _))))))))) (List.Perm.refl _))
     clear hH
     revert SS; revert waL; revert bkE; revert bkL; revert A0h n0h c0h A1h n1h c1h A2h n2h c2h A3h n3h c3h A4h n4h c4h A5h n5h c5h A6h n6h c6h A7h n7h c7h; revert A0yb n0yb c0yb A1yb n1yb c1yb A2yb n2yb c2yb A3yb n3yb c3yb A4yb n4yb c4yb A5yb n5yb c5yb; revert A0ya n0ya c0ya A1ya n1ya c1ya A2ya n2ya c2ya A3ya n3ya c3ya A4ya n4ya c4ya A5ya n5ya c5ya
     exact FIN trivial
     exact AllReadyH.nil
     exact AllReadyH.nil
     refine AllReadyH.cons (o := ⟨some 17,.alloc 34,0,"exact.go:4569",#[],none⟩) rfl ?_ ?_
     intro K hK
     go_simp
     replace SS := Lib.hid (SS.out.allocE [.int .i64 0,.int .i64 0,.bool false,.slice none 0 0,.slice none 0 0,.bool false,.slice none 0 0,.slice none 0 0,.bool false,.slice none 0 0,.slice none 0 0] 34)
     simp only [List.cons_append, List.nil_append] at SS
     generalize hbk : Array.size (World.heap wc_1) = bkL at SS ⊢
     clear hbk
     generalize hwa : World.alloc _ _ = waL at SS ⊢
     clear hwa
     refine hK.out _ _ (mkS_131 _ _ _ SS.out) (fun hH => ?_)
     clear hK K
     try simp only [pm, s0, sS]
     refine wpAnyH_ready (rs := [4, 10]) (by kernel_rfl) (by simp) ?_
     refine AllReadyH.cons (o := ⟨some 124,.call { callee := .value (.func 8),args := #[.tmp 121,.tmp 123],argTypes := #[34,34] },35,"exact.go:4569",#[⟨1,.data⟩,⟨3,.data⟩,⟨3,.chain⟩],none⟩) rfl ?_ ?_
     intro K hK
     go_simp
     go_at_call 8
     refine (HI.out (.slice A0ya n0ya c0ya) (.slice A1ya n1ya c1ya) (.slice A2ya n2ya c2ya) (.slice A3ya n3ya c3ya) (.slice A4ya n4ya c4ya) (.slice A5ya n5ya c5ya) (.slice A0yb n0yb c0yb) (.slice A1yb n1yb c1yb) (.slice A2yb n2yb c2yb) (.slice A3yb n3yb c3yb) (.slice A4yb n4yb c4yb) (.slice A5yb n5yb c5yb) _ (SS.out.lk 1 rfl) (SS.out.lk 0 rfl)).mono ?_
     rintro e wc_9 ⟨v0_h, v1_h, v2_h, v3_h, v4_h, v5_h, v6_h, v7_h, rfl, ho, hb⟩
     obtain ⟨A0h, n0h, c0h, rfl⟩ := (ho.at_ 0 rfl).shape3
     obtain ⟨A1h, n1h, c1h, rfl⟩ := (ho.at_ 1 rfl).shape3
     obtain ⟨A2h, n2h, c2h, rfl⟩ := (ho.at_ 2 rfl).shape3
     obtain ⟨A3h, n3h, c3h, rfl⟩ := (ho.at_ 3 rfl).shape3
     obtain ⟨A4h, n4h, c4h, rfl⟩ := (ho.at_ 4 rfl).shape3
     obtain ⟨A5h, n5h, c5h, rfl⟩ := (ho.at_ 5 rfl).shape3
     obtain ⟨A6h, n6h, c6h, rfl⟩ := (ho.at_ 6 rfl).shape3
     obtain ⟨A7h, n7h, c7h, rfl⟩ := (ho.at_ 7 rfl).shape3
     replace SS := Lib.hid (SS.out.rows ho hb)
     clear ho hb
     refine hK.out _ _ (mkS_131 _ _ _ SS.out) (fun hH => ?_)
     clear hK K
     try simp only [pm, s0, sS]
     refine tkH 5 ?_ ⟨some 119,.move (.tmp 124),35,"exact.go:4569",#[⟨4,.data⟩],none⟩ ?_ ?_
     rotate_left
     · intro w9 hS; (try dsimp only at hS); go_simp; try with_reducible rfl
     try simp only [pm, s0, sS]
     refine tkH 6 ?_ ⟨some 125,.extract (.tmp 119) 0,34,"exact.go:4569",#[⟨5,.data⟩],none⟩ ?_ ?_
     rotate_left
     · intro w9 hS; (try dsimp only at hS); go_simp; try with_reducible rfl
     try simp only [pm, s0, sS]
     refine tkH 7 ?_ ⟨some 126,.extract (.tmp 119) 1,32,"exact.go:4569",#[⟨5,.data⟩,⟨11,.gcOnly .lateStores⟩],none⟩ ?_ ?_
     rotate_left
     · intro w9 hS; (try dsimp only at hS); go_simp; try with_reducible rfl
     try simp only [pm, s0, sS]
     refine tkH 8 ?_ ⟨some 127,.extract (.tmp 119) 2,4,"exact.go:4569",#[⟨5,.data⟩,⟨12,.gcOnly .lateStores⟩],none⟩ ?_ ?_
     rotate_left
     · intro w9 hS; (try dsimp only at hS); go_simp; try with_reducible rfl
     try simp only [pm, s0, sS]
     refine wpAnyH_ready (rs := [10]) (by kernel_rfl) (by simp) ?_
     refine AllReadyH.cons (o := ⟨some 18,.alloc 32,0,"exact.go:4569",#[],none⟩) rfl ?_ ?_
     intro K hK
     go_simp
     replace SS := Lib.hid (SS.out.allocE [.bool false,.slice none 0 0,.slice none 0 0] 32)
     simp only [List.cons_append, List.nil_append] at SS
     generalize hbk : Array.size (World.heap wc_9) = bkE at SS ⊢
     clear hbk
     generalize hwa : World.alloc _ _ = waE at SS ⊢
     clear hwa
     refine hK.out _ _ (mkS_131 _ _ _ SS.out) (fun hH => ?_)
     clear hK K
     try simp only [pm, s0, sS]
     clear hH
     revert SS; revert waE; revert bkE; revert bkL; revert A0h n0h c0h A1h n1h c1h A2h n2h c2h A3h n3h c3h A4h n4h c4h A5h n5h c5h A6h n6h c6h A7h n7h c7h; revert A0yb n0yb c0yb A1yb n1yb c1yb A2yb n2yb c2yb A3yb n3yb c3yb A4yb n4yb c4yb A5yb n5yb c5yb; revert A0ya n0ya c0ya A1ya n1ya c1ya A2ya n2ya c2ya A3ya n3ya c3ya A4ya n4ya c4ya A5ya n5ya c5ya
     exact FIN trivial
     exact AllReadyH.nil
     refine AllReadyH.cons (o := ⟨some 18,.alloc 32,0,"exact.go:4569",#[],none⟩) rfl ?_ ?_
     intro K hK
     go_simp
     replace SS := Lib.hid (SS.out.allocE [.bool false,.slice none 0 0,.slice none 0 0] 32)
     simp only [List.cons_append, List.nil_append] at SS
     generalize hbk : Array.size (World.heap waL) = bkE at SS ⊢
     clear hbk
     generalize hwa : World.alloc _ _ = waE at SS ⊢
     clear hwa
     refine hK.out _ _ (mkS_131 _ _ _ SS.out) (fun hH => ?_)
     clear hK K
     try simp only [pm, s0, sS]
     refine wpAnyH_ready (rs := [4]) (by kernel_rfl) (by simp) ?_
     refine AllReadyH.cons (o := ⟨some 124,.call { callee := .value (.func 8),args := #[.tmp 121,.tmp 123],argTypes := #[34,34] },35,"exact.go:4569",#[⟨1,.data⟩,⟨3,.data⟩,⟨3,.chain⟩],none⟩) rfl ?_ ?_
     intro K hK
     go_simp
     go_at_call 8
     refine (HI.out (.slice A0ya n0ya c0ya) (.slice A1ya n1ya c1ya) (.slice A2ya n2ya c2ya) (.slice A3ya n3ya c3ya) (.slice A4ya n4ya c4ya) (.slice A5ya n5ya c5ya) (.slice A0yb n0yb c0yb) (.slice A1yb n1yb c1yb) (.slice A2yb n2yb c2yb) (.slice A3yb n3yb c3yb) (.slice A4yb n4yb c4yb) (.slice A5yb n5yb c5yb) _ (SS.out.lk 1 rfl) (SS.out.lk 0 rfl)).mono ?_
     rintro e wc_9 ⟨v0_h, v1_h, v2_h, v3_h, v4_h, v5_h, v6_h, v7_h, rfl, ho, hb⟩
     obtain ⟨A0h, n0h, c0h, rfl⟩ := (ho.at_ 0 rfl).shape3
     obtain ⟨A1h, n1h, c1h, rfl⟩ := (ho.at_ 1 rfl).shape3
     obtain ⟨A2h, n2h, c2h, rfl⟩ := (ho.at_ 2 rfl).shape3
     obtain ⟨A3h, n3h, c3h, rfl⟩ := (ho.at_ 3 rfl).shape3
     obtain ⟨A4h, n4h, c4h, rfl⟩ := (ho.at_ 4 rfl).shape3
     obtain ⟨A5h, n5h, c5h, rfl⟩ := (ho.at_ 5 rfl).shape3
     obtain ⟨A6h, n6h, c6h, rfl⟩ := (ho.at_ 6 rfl).shape3
     obtain ⟨A7h, n7h, c7h, rfl⟩ := (ho.at_ 7 rfl).shape3
     replace SS := Lib.hid (SS.out.rows ho hb)
     clear ho hb
     refine hK.out _ _ (mkS_131 _ _ _ SS.out) (fun hH => ?_)
     clear hK K
     try simp only [pm, s0, sS]
     refine tkH 5 ?_ ⟨some 119,.move (.tmp 124),35,"exact.go:4569",#[⟨4,.data⟩],none⟩ ?_ ?_
     rotate_left
     · intro w9 hS; (try dsimp only at hS); go_simp; try with_reducible rfl
     try simp only [pm, s0, sS]
     refine tkH 6 ?_ ⟨some 125,.extract (.tmp 119) 0,34,"exact.go:4569",#[⟨5,.data⟩],none⟩ ?_ ?_
     rotate_left
     · intro w9 hS; (try dsimp only at hS); go_simp; try with_reducible rfl
     try simp only [pm, s0, sS]
     refine tkH 7 ?_ ⟨some 126,.extract (.tmp 119) 1,32,"exact.go:4569",#[⟨5,.data⟩,⟨11,.gcOnly .lateStores⟩],none⟩ ?_ ?_
     rotate_left
     · intro w9 hS; (try dsimp only at hS); go_simp; try with_reducible rfl
     try simp only [pm, s0, sS]
     refine tkH 8 ?_ ⟨some 127,.extract (.tmp 119) 2,4,"exact.go:4569",#[⟨5,.data⟩,⟨12,.gcOnly .lateStores⟩],none⟩ ?_ ?_
     rotate_left
     · intro w9 hS; (try dsimp only at hS); go_simp; try with_reducible rfl
     try simp only [pm, s0, sS]
     clear hH
     revert SS; revert wc_9; revert bkE; revert bkL; revert A0h n0h c0h A1h n1h c1h A2h n2h c2h A3h n3h c3h A4h n4h c4h A5h n5h c5h A6h n6h c6h A7h n7h c7h; revert A0yb n0yb c0yb A1yb n1yb c1yb A2yb n2yb c2yb A3yb n3yb c3yb A4yb n4yb c4yb A5yb n5yb c5yb; revert A0ya n0ya c0ya A1ya n1ya c1ya A2ya n2ya c2ya A3ya n3ya c3ya A4ya n4ya c4ya A5ya n5ya c5ya
     exact FIN trivial
     exact AllReadyH.nil
     exact AllReadyH.nil
     refine AllReadyH.cons (o := ⟨some 18,.alloc 32,0,"exact.go:4569",#[],none⟩) rfl ?_ ?_
     intro K hK
     go_simp
     replace SS := Lib.hid (SS.out.allocE [.bool false,.slice none 0 0,.slice none 0 0] 32)
     simp only [List.cons_append, List.nil_append] at SS
     generalize hbk : Array.size (World.heap wc_1) = bkE at SS ⊢
     clear hbk
     generalize hwa : World.alloc _ _ = waE at SS ⊢
     clear hwa
     refine hK.out _ _ (mkS_131 _ _ _ SS.out) (fun hH => ?_)
     clear hK K
     try simp only [pm, s0, sS]
     refine wpAnyH_ready (rs := [4, 9]) (by kernel_rfl) (by simp) ?_
     refine AllReadyH.cons (o := ⟨some 124,.call { callee := .value (.func 8),args := #[.tmp 121,.tmp 123],argTypes := #[34,34] },35,"exact.go:4569",#[⟨1,.data⟩,⟨3,.data⟩,⟨3,.chain⟩],none⟩) rfl ?_ ?_
     intro K hK
     go_simp
     go_at_call 8
     refine (HI.out (.slice A0ya n0ya c0ya) (.slice A1ya n1ya c1ya) (.slice A2ya n2ya c2ya) (.slice A3ya n3ya c3ya) (.slice A4ya n4ya c4ya) (.slice A5ya n5ya c5ya) (.slice A0yb n0yb c0yb) (.slice A1yb n1yb c1yb) (.slice A2yb n2yb c2yb) (.slice A3yb n3yb c3yb) (.slice A4yb n4yb c4yb) (.slice A5yb n5yb c5yb) _ (SS.out.lk 1 rfl) (SS.out.lk 0 rfl)).mono ?_
     rintro e wc_9 ⟨v0_h, v1_h, v2_h, v3_h, v4_h, v5_h, v6_h, v7_h, rfl, ho, hb⟩
     obtain ⟨A0h, n0h, c0h, rfl⟩ := (ho.at_ 0 rfl).shape3
     obtain ⟨A1h, n1h, c1h, rfl⟩ := (ho.at_ 1 rfl).shape3
     obtain ⟨A2h, n2h, c2h, rfl⟩ := (ho.at_ 2 rfl).shape3
     obtain ⟨A3h, n3h, c3h, rfl⟩ := (ho.at_ 3 rfl).shape3
     obtain ⟨A4h, n4h, c4h, rfl⟩ := (ho.at_ 4 rfl).shape3
     obtain ⟨A5h, n5h, c5h, rfl⟩ := (ho.at_ 5 rfl).shape3
     obtain ⟨A6h, n6h, c6h, rfl⟩ := (ho.at_ 6 rfl).shape3
     obtain ⟨A7h, n7h, c7h, rfl⟩ := (ho.at_ 7 rfl).shape3
     replace SS := Lib.hid (SS.out.rows ho hb)
     clear ho hb
     refine hK.out _ _ (mkS_131 _ _ _ SS.out) (fun hH => ?_)
     clear hK K
     try simp only [pm, s0, sS]
     refine tkH 5 ?_ ⟨some 119,.move (.tmp 124),35,"exact.go:4569",#[⟨4,.data⟩],none⟩ ?_ ?_
     rotate_left
     · intro w9 hS; (try dsimp only at hS); go_simp; try with_reducible rfl
     try simp only [pm, s0, sS]
     refine tkH 6 ?_ ⟨some 125,.extract (.tmp 119) 0,34,"exact.go:4569",#[⟨5,.data⟩],none⟩ ?_ ?_
     rotate_left
     · intro w9 hS; (try dsimp only at hS); go_simp; try with_reducible rfl
     try simp only [pm, s0, sS]
     refine tkH 7 ?_ ⟨some 126,.extract (.tmp 119) 1,32,"exact.go:4569",#[⟨5,.data⟩,⟨11,.gcOnly .lateStores⟩],none⟩ ?_ ?_
     rotate_left
     · intro w9 hS; (try dsimp only at hS); go_simp; try with_reducible rfl
     try simp only [pm, s0, sS]
     refine tkH 8 ?_ ⟨some 127,.extract (.tmp 119) 2,4,"exact.go:4569",#[⟨5,.data⟩,⟨12,.gcOnly .lateStores⟩],none⟩ ?_ ?_
     rotate_left
     · intro w9 hS; (try dsimp only at hS); go_simp; try with_reducible rfl
     try simp only [pm, s0, sS]
     refine wpAnyH_ready (rs := [9]) (by kernel_rfl) (by simp) ?_
     refine AllReadyH.cons (o := ⟨some 17,.alloc 34,0,"exact.go:4569",#[],none⟩) rfl ?_ ?_
     intro K hK
     go_simp
     replace SS := Lib.hid (SS.out.allocE [.int .i64 0,.int .i64 0,.bool false,.slice none 0 0,.slice none 0 0,.bool false,.slice none 0 0,.slice none 0 0,.bool false,.slice none 0 0,.slice none 0 0] 34)
     simp only [List.cons_append, List.nil_append] at SS
     generalize hbk : Array.size (World.heap wc_9) = bkL at SS ⊢
     clear hbk
     generalize hwa : World.alloc _ _ = waL at SS ⊢
     clear hwa
     refine hK.out _ _ (mkS_131 _ _ _ SS.out) (fun hH => ?_)
     clear hK K
     try simp only [pm, s0, sS]
     replace SS := Lib.hid (SS.out.perm (List.Perm.cons _ (List.Perm.cons _ (List.Perm.cons _ (List.Perm.cons _ (List.Perm.cons _ (List.Perm.cons _ (List.Perm.cons _ (List.Perm.cons _ (List.Perm.swap _ _ _))))))))) (List.Perm.refl _))
     clear hH
     revert SS; revert waL; revert bkE; revert bkL; revert A0h n0h c0h A1h n1h c1h A2h n2h c2h A3h n3h c3h A4h n4h c4h A5h n5h c5h A6h n6h c6h A7h n7h c7h; revert A0yb n0yb c0yb A1yb n1yb c1yb A2yb n2yb c2yb A3yb n3yb c3yb A4yb n4yb c4yb A5yb n5yb c5yb; revert A0ya n0ya c0ya A1ya n1ya c1ya A2ya n2ya c2ya A3ya n3ya c3ya A4ya n4ya c4ya A5ya n5ya c5ya
     exact FIN trivial
     exact AllReadyH.nil
     refine AllReadyH.cons (o := ⟨some 17,.alloc 34,0,"exact.go:4569",#[],none⟩) rfl ?_ ?_
     intro K hK
     go_simp
     replace SS := Lib.hid (SS.out.allocE [.int .i64 0,.int .i64 0,.bool false,.slice none 0 0,.slice none 0 0,.bool false,.slice none 0 0,.slice none 0 0,.bool false,.slice none 0 0,.slice none 0 0] 34)
     simp only [List.cons_append, List.nil_append] at SS
     generalize hbk : Array.size (World.heap waE) = bkL at SS ⊢
     clear hbk
     generalize hwa : World.alloc _ _ = waL at SS ⊢
     clear hwa
     refine hK.out _ _ (mkS_131 _ _ _ SS.out) (fun hH => ?_)
     clear hK K
     try simp only [pm, s0, sS]
     refine wpAnyH_ready (rs := [4]) (by kernel_rfl) (by simp) ?_
     refine AllReadyH.cons (o := ⟨some 124,.call { callee := .value (.func 8),args := #[.tmp 121,.tmp 123],argTypes := #[34,34] },35,"exact.go:4569",#[⟨1,.data⟩,⟨3,.data⟩,⟨3,.chain⟩],none⟩) rfl ?_ ?_
     intro K hK
     go_simp
     go_at_call 8
     refine (HI.out (.slice A0ya n0ya c0ya) (.slice A1ya n1ya c1ya) (.slice A2ya n2ya c2ya) (.slice A3ya n3ya c3ya) (.slice A4ya n4ya c4ya) (.slice A5ya n5ya c5ya) (.slice A0yb n0yb c0yb) (.slice A1yb n1yb c1yb) (.slice A2yb n2yb c2yb) (.slice A3yb n3yb c3yb) (.slice A4yb n4yb c4yb) (.slice A5yb n5yb c5yb) _ (SS.out.lk 1 rfl) (SS.out.lk 0 rfl)).mono ?_
     rintro e wc_9 ⟨v0_h, v1_h, v2_h, v3_h, v4_h, v5_h, v6_h, v7_h, rfl, ho, hb⟩
     obtain ⟨A0h, n0h, c0h, rfl⟩ := (ho.at_ 0 rfl).shape3
     obtain ⟨A1h, n1h, c1h, rfl⟩ := (ho.at_ 1 rfl).shape3
     obtain ⟨A2h, n2h, c2h, rfl⟩ := (ho.at_ 2 rfl).shape3
     obtain ⟨A3h, n3h, c3h, rfl⟩ := (ho.at_ 3 rfl).shape3
     obtain ⟨A4h, n4h, c4h, rfl⟩ := (ho.at_ 4 rfl).shape3
     obtain ⟨A5h, n5h, c5h, rfl⟩ := (ho.at_ 5 rfl).shape3
     obtain ⟨A6h, n6h, c6h, rfl⟩ := (ho.at_ 6 rfl).shape3
     obtain ⟨A7h, n7h, c7h, rfl⟩ := (ho.at_ 7 rfl).shape3
     replace SS := Lib.hid (SS.out.rows ho hb)
     clear ho hb
     refine hK.out _ _ (mkS_131 _ _ _ SS.out) (fun hH => ?_)
     clear hK K
     try simp only [pm, s0, sS]
     refine tkH 5 ?_ ⟨some 119,.move (.tmp 124),35,"exact.go:4569",#[⟨4,.data⟩],none⟩ ?_ ?_
     rotate_left
     · intro w9 hS; (try dsimp only at hS); go_simp; try with_reducible rfl
     try simp only [pm, s0, sS]
     refine tkH 6 ?_ ⟨some 125,.extract (.tmp 119) 0,34,"exact.go:4569",#[⟨5,.data⟩],none⟩ ?_ ?_
     rotate_left
     · intro w9 hS; (try dsimp only at hS); go_simp; try with_reducible rfl
     try simp only [pm, s0, sS]
     refine tkH 7 ?_ ⟨some 126,.extract (.tmp 119) 1,32,"exact.go:4569",#[⟨5,.data⟩,⟨11,.gcOnly .lateStores⟩],none⟩ ?_ ?_
     rotate_left
     · intro w9 hS; (try dsimp only at hS); go_simp; try with_reducible rfl
     try simp only [pm, s0, sS]
     refine tkH 8 ?_ ⟨some 127,.extract (.tmp 119) 2,4,"exact.go:4569",#[⟨5,.data⟩,⟨12,.gcOnly .lateStores⟩],none⟩ ?_ ?_
     rotate_left
     · intro w9 hS; (try dsimp only at hS); go_simp; try with_reducible rfl
     try simp only [pm, s0, sS]
     replace SS := Lib.hid (SS.out.perm (List.Perm.cons _ (List.Perm.cons _ (List.Perm.cons _ (List.Perm.cons _ (List.Perm.cons _ (List.Perm.cons _ (List.Perm.cons _ (List.Perm.cons _ (List.Perm.swap _ _ _))))))))) (List.Perm.refl _))
     clear hH
     revert SS; revert wc_9; revert bkE; revert bkL; revert A0h n0h c0h A1h n1h c1h A2h n2h c2h A3h n3h c3h A4h n4h c4h A5h n5h c5h A6h n6h c6h A7h n7h c7h; revert A0yb n0yb c0yb A1yb n1yb c1yb A2yb n2yb c2yb A3yb n3yb c3yb A4yb n4yb c4yb A5yb n5yb c5yb; revert A0ya n0ya c0ya A1ya n1ya c1ya A2ya n2ya c2ya A3ya n3ya c3ya A4ya n4ya c4ya A5ya n5ya c5ya
     exact FIN trivial
     exact AllReadyH.nil
     exact AllReadyH.nil
     exact AllReadyH.nil
     refine AllReadyH.cons (o := ⟨some 17,.alloc 34,0,"exact.go:4569",#[],none⟩) rfl ?_ ?_
     intro K hK
     go_simp
     replace SS := Lib.hid (SS.out.allocE [.int .i64 0,.int .i64 0,.bool false,.slice none 0 0,.slice none 0 0,.bool false,.slice none 0 0,.slice none 0 0,.bool false,.slice none 0 0,.slice none 0 0] 34)
     simp only [List.cons_append, List.nil_append] at SS
     generalize hbk : Array.size (World.heap wc_0) = bkL at SS ⊢
     clear hbk
     generalize hwa : World.alloc _ _ = waL at SS ⊢
     clear hwa
     refine hK.out _ _ (mkS_131 _ _ _ SS.out) (fun hH => ?_)
     clear hK K
     try simp only [pm, s0, sS]
     refine wpAnyH_ready (rs := [3, 10]) (by kernel_rfl) (by simp) ?_
     refine AllReadyH.cons (o := ⟨some 123,.call { callee := .value (.func 7),args := #[.tmp 122],argTypes := #[28] },34,"exact.go:4569",#[⟨2,.data⟩,⟨1,.chain⟩],none⟩) rfl ?_ ?_
     intro K hK
     go_simp
     go_at_call_of 7 (Value.agg #[Value.int .i64 A1,Value.int .i64 B1,Value.bool P1.s,p10,p11,Value.bool Q1.s,q10,q11,Value.bool R1.s,r10,r11])
     refine (toLink_f A1 B1 P1 Q1 R1 p10 p11 q10 q11 r10 r11 _ (SS.out.lkI HA1.out) HL1.out).mono ?_
     rintro e wc_1 ⟨v0_yb, v1_yb, v2_yb, v3_yb, v4_yb, v5_yb, rfl, ho, hb⟩
     obtain ⟨A0yb, n0yb, c0yb, rfl⟩ := (ho.at_ 0 rfl).shape3
     obtain ⟨A1yb, n1yb, c1yb, rfl⟩ := (ho.at_ 1 rfl).shape3
     obtain ⟨A2yb, n2yb, c2yb, rfl⟩ := (ho.at_ 2 rfl).shape3
     obtain ⟨A3yb, n3yb, c3yb, rfl⟩ := (ho.at_ 3 rfl).shape3
     obtain ⟨A4yb, n4yb, c4yb, rfl⟩ := (ho.at_ 4 rfl).shape3
     obtain ⟨A5yb, n5yb, c5yb, rfl⟩ := (ho.at_ 5 rfl).shape3
     replace SS := Lib.hid (SS.out.rows ho hb)
     clear ho hb
     refine hK.out _ _ (mkS_131 _ _ _ SS.out) (fun hH => ?_)
     clear hK K
     try simp only [pm, s0, sS]
     refine wpAnyH_ready (rs := [4, 10]) (by kernel_rfl) (by simp) ?_
     refine AllReadyH.cons (o := ⟨some 124,.call { callee := .value (.func 8),args := #[.tmp 121,.tmp 123],argTypes := #[34,34] },35,"exact.go:4569",#[⟨1,.data⟩,⟨3,.data⟩,⟨3,.chain⟩],none⟩) rfl ?_ ?_
     intro K hK
     go_simp
     go_at_call 8
     refine (HI.out (.slice A0ya n0ya c0ya) (.slice A1ya n1ya c1ya) (.slice A2ya n2ya c2ya) (.slice A3ya n3ya c3ya) (.slice A4ya n4ya c4ya) (.slice A5ya n5ya c5ya) (.slice A0yb n0yb c0yb) (.slice A1yb n1yb c1yb) (.slice A2yb n2yb c2yb) (.slice A3yb n3yb c3yb) (.slice A4yb n4yb c4yb) (.slice A5yb n5yb c5yb) _ (SS.out.lk 1 rfl) (SS.out.lk 0 rfl)).mono ?_
     rintro e wc_9 ⟨v0_h, v1_h, v2_h, v3_h, v4_h, v5_h, v6_h, v7_h, rfl, ho, hb⟩
     obtain ⟨A0h, n0h, c0h, rfl⟩ := (ho.at_ 0 rfl).shape3
     obtain ⟨A1h, n1h, c1h, rfl⟩ := (ho.at_ 1 rfl).shape3
     obtain ⟨A2h, n2h, c2h, rfl⟩ := (ho.at_ 2 rfl).shape3
     obtain ⟨A3h, n3h, c3h, rfl⟩ := (ho.at_ 3 rfl).shape3
     obtain ⟨A4h, n4h, c4h, rfl⟩ := (ho.at_ 4 rfl).shape3
     obtain ⟨A5h, n5h, c5h, rfl⟩ := (ho.at_ 5 rfl).shape3
     obtain ⟨A6h, n6h, c6h, rfl⟩ := (ho.at_ 6 rfl).shape3
     obtain ⟨A7h, n7h, c7h, rfl⟩ := (ho.at_ 7 rfl).shape3
     replace SS := Lib.hid (SS.out.rows ho hb)
     clear ho hb
     refine hK.out _ _ (mkS_131 _ _ _ SS.out) (fun hH => ?_)
     clear hK K
     try simp only [pm, s0, sS]
     refine tkH 5 ?_ ⟨some 119,.move (.tmp 124),35,"exact.go:4569",#[⟨4,.data⟩],none⟩ ?_ ?_
     rotate_left
     · intro w9 hS; (try dsimp only at hS); go_simp; try with_reducible rfl
     try simp only [pm, s0, sS]
     refine tkH 6 ?_ ⟨some 125,.extract (.tmp 119) 0,34,"exact.go:4569",#[⟨5,.data⟩],none⟩ ?_ ?_
     rotate_left
     · intro w9 hS; (try dsimp only at hS); go_simp; try with_reducible rfl
     try simp only [pm, s0, sS]
     refine tkH 7 ?_ ⟨some 126,.extract (.tmp 119) 1,32,"exact.go:4569",#[⟨5,.data⟩,⟨11,.gcOnly .lateStores⟩],none⟩ ?_ ?_
     rotate_left
     · intro w9 hS; (try dsimp only at hS); go_simp; try with_reducible rfl
     try simp only [pm, s0, sS]
     refine tkH 8 ?_ ⟨some 127,.extract (.tmp 119) 2,4,"exact.go:4569",#[⟨5,.data⟩,⟨12,.gcOnly .lateStores⟩],none⟩ ?_ ?_
     rotate_left
     · intro w9 hS; (try dsimp only at hS); go_simp; try with_reducible rfl
     try simp only [pm, s0, sS]
     refine wpAnyH_ready (rs := [10]) (by kernel_rfl) (by simp) ?_
     refine AllReadyH.cons (o := ⟨some 18,.alloc 32,0,"exact.go:4569",#[],none⟩) rfl ?_ ?_
     intro K hK
     go_simp
     replace SS := Lib.hid (SS.out.allocE [.bool false,.slice none 0 0,.slice none 0 0] 32)
     simp only [List.cons_append, List.nil_append] at SS
     generalize hbk : Array.size (World.heap wc_9) = bkE at SS ⊢
     clear hbk
     generalize hwa : World.alloc _ _ = waE at SS ⊢
     clear hwa
     refine hK.out _ _ (mkS_131 _ _ _ SS.out) (fun hH => ?_)
     clear hK K
     try simp only [pm, s0, sS]
     clear hH
     revert SS; revert waE; revert bkE; revert bkL; revert A0h n0h c0h A1h n1h c1h A2h n2h c2h A3h n3h c3h A4h n4h c4h A5h n5h c5h A6h n6h c6h A7h n7h c7h; revert A0yb n0yb c0yb A1yb n1yb c1yb A2yb n2yb c2yb A3yb n3yb c3yb A4yb n4yb c4yb A5yb n5yb c5yb; revert A0ya n0ya c0ya A1ya n1ya c1ya A2ya n2ya c2ya A3ya n3ya c3ya A4ya n4ya c4ya A5ya n5ya c5ya
     exact FIN trivial
     exact AllReadyH.nil
     refine AllReadyH.cons (o := ⟨some 18,.alloc 32,0,"exact.go:4569",#[],none⟩) rfl ?_ ?_
     intro K hK
     go_simp
     replace SS := Lib.hid (SS.out.allocE [.bool false,.slice none 0 0,.slice none 0 0] 32)
     simp only [List.cons_append, List.nil_append] at SS
     generalize hbk : Array.size (World.heap wc_1) = bkE at SS ⊢
     clear hbk
     generalize hwa : World.alloc _ _ = waE at SS ⊢
     clear hwa
     refine hK.out _ _ (mkS_131 _ _ _ SS.out) (fun hH => ?_)
     clear hK K
     try simp only [pm, s0, sS]
     refine wpAnyH_ready (rs := [4]) (by kernel_rfl) (by simp) ?_
     refine AllReadyH.cons (o := ⟨some 124,.call { callee := .value (.func 8),args := #[.tmp 121,.tmp 123],argTypes := #[34,34] },35,"exact.go:4569",#[⟨1,.data⟩,⟨3,.data⟩,⟨3,.chain⟩],none⟩) rfl ?_ ?_
     intro K hK
     go_simp
     go_at_call 8
     refine (HI.out (.slice A0ya n0ya c0ya) (.slice A1ya n1ya c1ya) (.slice A2ya n2ya c2ya) (.slice A3ya n3ya c3ya) (.slice A4ya n4ya c4ya) (.slice A5ya n5ya c5ya) (.slice A0yb n0yb c0yb) (.slice A1yb n1yb c1yb) (.slice A2yb n2yb c2yb) (.slice A3yb n3yb c3yb) (.slice A4yb n4yb c4yb) (.slice A5yb n5yb c5yb) _ (SS.out.lk 1 rfl) (SS.out.lk 0 rfl)).mono ?_
     rintro e wc_9 ⟨v0_h, v1_h, v2_h, v3_h, v4_h, v5_h, v6_h, v7_h, rfl, ho, hb⟩
     obtain ⟨A0h, n0h, c0h, rfl⟩ := (ho.at_ 0 rfl).shape3
     obtain ⟨A1h, n1h, c1h, rfl⟩ := (ho.at_ 1 rfl).shape3
     obtain ⟨A2h, n2h, c2h, rfl⟩ := (ho.at_ 2 rfl).shape3
     obtain ⟨A3h, n3h, c3h, rfl⟩ := (ho.at_ 3 rfl).shape3
     obtain ⟨A4h, n4h, c4h, rfl⟩ := (ho.at_ 4 rfl).shape3
     obtain ⟨A5h, n5h, c5h, rfl⟩ := (ho.at_ 5 rfl).shape3
     obtain ⟨A6h, n6h, c6h, rfl⟩ := (ho.at_ 6 rfl).shape3
     obtain ⟨A7h, n7h, c7h, rfl⟩ := (ho.at_ 7 rfl).shape3
     replace SS := Lib.hid (SS.out.rows ho hb)
     clear ho hb
     refine hK.out _ _ (mkS_131 _ _ _ SS.out) (fun hH => ?_)
     clear hK K
     try simp only [pm, s0, sS]
     refine tkH 5 ?_ ⟨some 119,.move (.tmp 124),35,"exact.go:4569",#[⟨4,.data⟩],none⟩ ?_ ?_
     rotate_left
     · intro w9 hS; (try dsimp only at hS); go_simp; try with_reducible rfl
     try simp only [pm, s0, sS]
     refine tkH 6 ?_ ⟨some 125,.extract (.tmp 119) 0,34,"exact.go:4569",#[⟨5,.data⟩],none⟩ ?_ ?_
     rotate_left
     · intro w9 hS; (try dsimp only at hS); go_simp; try with_reducible rfl
     try simp only [pm, s0, sS]
     refine tkH 7 ?_ ⟨some 126,.extract (.tmp 119) 1,32,"exact.go:4569",#[⟨5,.data⟩,⟨11,.gcOnly .lateStores⟩],none⟩ ?_ ?_
     rotate_left
     · intro w9 hS; (try dsimp only at hS); go_simp; try with_reducible rfl
     try simp only [pm, s0, sS]
     refine tkH 8 ?_ ⟨some 127,.extract (.tmp 119) 2,4,"exact.go:4569",#[⟨5,.data⟩,⟨12,.gcOnly .lateStores⟩],none⟩ ?_ ?_
     rotate_left
     · intro w9 hS; (try dsimp only at hS); go_simp; try with_reducible rfl
     try simp only [pm, s0, sS]
     clear hH
     revert SS; revert wc_9; revert bkE; revert bkL; revert A0h n0h c0h A1h n1h c1h A2h n2h c2h A3h n3h c3h A4h n4h c4h A5h n5h c5h A6h n6h c6h A7h n7h c7h; revert A0yb n0yb c0yb A1yb n1yb c1yb A2yb n2yb c2yb A3yb n3yb c3yb A4yb n4yb c4yb A5yb n5yb c5yb; revert A0ya n0ya c0ya A1ya n1ya c1ya A2ya n2ya c2ya A3ya n3ya c3ya A4ya n4ya c4ya A5ya n5ya c5ya
     exact FIN trivial
     exact AllReadyH.nil
     exact AllReadyH.nil
     refine AllReadyH.cons (o := ⟨some 18,.alloc 32,0,"exact.go:4569",#[],none⟩) rfl ?_ ?_
     intro K hK
     go_simp
     replace SS := Lib.hid (SS.out.allocE [.bool false,.slice none 0 0,.slice none 0 0] 32)
     simp only [List.cons_append, List.nil_append] at SS
     generalize hbk : Array.size (World.heap waL) = bkE at SS ⊢
     clear hbk
     generalize hwa : World.alloc _ _ = waE at SS ⊢
     clear hwa
     refine hK.out _ _ (mkS_131 _ _ _ SS.out) (fun hH => ?_)
     clear hK K
     try simp only [pm, s0, sS]
     refine wpAnyH_ready (rs := [3]) (by kernel_rfl) (by simp) ?_
     refine AllReadyH.cons (o := ⟨some 123,.call { callee := .value (.func 7),args := #[.tmp 122],argTypes := #[28] },34,"exact.go:4569",#[⟨2,.data⟩,⟨1,.chain⟩],none⟩) rfl ?_ ?_
     intro K hK
     go_simp
     go_at_call_of 7 (Value.agg #[Value.int .i64 A1,Value.int .i64 B1,Value.bool P1.s,p10,p11,Value.bool Q1.s,q10,q11,Value.bool R1.s,r10,r11])
     refine (toLink_f A1 B1 P1 Q1 R1 p10 p11 q10 q11 r10 r11 _ (SS.out.lkI HA1.out) HL1.out).mono ?_
     rintro e wc_1 ⟨v0_yb, v1_yb, v2_yb, v3_yb, v4_yb, v5_yb, rfl, ho, hb⟩
     obtain ⟨A0yb, n0yb, c0yb, rfl⟩ := (ho.at_ 0 rfl).shape3
     obtain ⟨A1yb, n1yb, c1yb, rfl⟩ := (ho.at_ 1 rfl).shape3
     obtain ⟨A2yb, n2yb, c2yb, rfl⟩ := (ho.at_ 2 rfl).shape3
     obtain ⟨A3yb, n3yb, c3yb, rfl⟩ := (ho.at_ 3 rfl).shape3
     obtain ⟨A4yb, n4yb, c4yb, rfl⟩ := (ho.at_ 4 rfl).shape3
     obtain ⟨A5yb, n5yb, c5yb, rfl⟩ := (ho.at_ 5 rfl).shape3
     replace SS := Lib.hid (SS.out.rows ho hb)
     clear ho hb
     refine hK.out _ _ (mkS_131 _ _ _ SS.out) (fun hH => ?_)
     clear hK K
     try simp only [pm, s0, sS]
     refine wpAnyH_ready (rs := [4]) (by kernel_rfl) (by simp) ?_
     refine AllReadyH.cons (o := ⟨some 124,.call { callee := .value (.func 8),args := #[.tmp 121,.tmp 123],argTypes := #[34,34] },35,"exact.go:4569",#[⟨1,.data⟩,⟨3,.data⟩,⟨3,.chain⟩],none⟩) rfl ?_ ?_
     intro K hK
     go_simp
     go_at_call 8
     refine (HI.out (.slice A0ya n0ya c0ya) (.slice A1ya n1ya c1ya) (.slice A2ya n2ya c2ya) (.slice A3ya n3ya c3ya) (.slice A4ya n4ya c4ya) (.slice A5ya n5ya c5ya) (.slice A0yb n0yb c0yb) (.slice A1yb n1yb c1yb) (.slice A2yb n2yb c2yb) (.slice A3yb n3yb c3yb) (.slice A4yb n4yb c4yb) (.slice A5yb n5yb c5yb) _ (SS.out.lk 1 rfl) (SS.out.lk 0 rfl)).mono ?_
     rintro e wc_9 ⟨v0_h, v1_h, v2_h, v3_h, v4_h, v5_h, v6_h, v7_h, rfl, ho, hb⟩
     obtain ⟨A0h, n0h, c0h, rfl⟩ := (ho.at_ 0 rfl).shape3
     obtain ⟨A1h, n1h, c1h, rfl⟩ := (ho.at_ 1 rfl).shape3
     obtain ⟨A2h, n2h, c2h, rfl⟩ := (ho.at_ 2 rfl).shape3
     obtain ⟨A3h, n3h, c3h, rfl⟩ := (ho.at_ 3 rfl).shape3
     obtain ⟨A4h, n4h, c4h, rfl⟩ := (ho.at_ 4 rfl).shape3
     obtain ⟨A5h, n5h, c5h, rfl⟩ := (ho.at_ 5 rfl).shape3
     obtain ⟨A6h, n6h, c6h, rfl⟩ := (ho.at_ 6 rfl).shape3
     obtain ⟨A7h, n7h, c7h, rfl⟩ := (ho.at_ 7 rfl).shape3
     replace SS := Lib.hid (SS.out.rows ho hb)
     clear ho hb
     refine hK.out _ _ (mkS_131 _ _ _ SS.out) (fun hH => ?_)
     clear hK K
     try simp only [pm, s0, sS]
     refine tkH 5 ?_ ⟨some 119,.move (.tmp 124),35,"exact.go:4569",#[⟨4,.data⟩],none⟩ ?_ ?_
     rotate_left
     · intro w9 hS; (try dsimp only at hS); go_simp; try with_reducible rfl
     try simp only [pm, s0, sS]
     refine tkH 6 ?_ ⟨some 125,.extract (.tmp 119) 0,34,"exact.go:4569",#[⟨5,.data⟩],none⟩ ?_ ?_
     rotate_left
     · intro w9 hS; (try dsimp only at hS); go_simp; try with_reducible rfl
     try simp only [pm, s0, sS]
     refine tkH 7 ?_ ⟨some 126,.extract (.tmp 119) 1,32,"exact.go:4569",#[⟨5,.data⟩,⟨11,.gcOnly .lateStores⟩],none⟩ ?_ ?_
     rotate_left
     · intro w9 hS; (try dsimp only at hS); go_simp; try with_reducible rfl
     try simp only [pm, s0, sS]
     refine tkH 8 ?_ ⟨some 127,.extract (.tmp 119) 2,4,"exact.go:4569",#[⟨5,.data⟩,⟨12,.gcOnly .lateStores⟩],none⟩ ?_ ?_
     rotate_left
     · intro w9 hS; (try dsimp only at hS); go_simp; try with_reducible rfl
     try simp only [pm, s0, sS]
     clear hH
     revert SS; revert wc_9; revert bkE; revert bkL; revert A0h n0h c0h A1h n1h c1h A2h n2h c2h A3h n3h c3h A4h n4h c4h A5h n5h c5h A6h n6h c6h A7h n7h c7h; revert A0yb n0yb c0yb A1yb n1yb c1yb A2yb n2yb c2yb A3yb n3yb c3yb A4yb n4yb c4yb A5yb n5yb c5yb; revert A0ya n0ya c0ya A1ya n1ya c1ya A2ya n2ya c2ya A3ya n3ya c3ya A4ya n4ya c4ya A5ya n5ya c5ya
     exact FIN trivial
     exact AllReadyH.nil
     exact AllReadyH.nil
     exact AllReadyH.nil
     refine AllReadyH.cons (o := ⟨some 18,.alloc 32,0,"exact.go:4569",#[],none⟩) rfl ?_ ?_
     intro K hK
     go_simp
     replace SS := Lib.hid (SS.out.allocE [.bool false,.slice none 0 0,.slice none 0 0] 32)
     simp only [List.cons_append, List.nil_append] at SS
     generalize hbk : Array.size (World.heap wc_0) = bkE at SS ⊢
     clear hbk
     generalize hwa : World.alloc _ _ = waE at SS ⊢
     clear hwa
     refine hK.out _ _ (mkS_131 _ _ _ SS.out) (fun hH => ?_)
     clear hK K
     try simp only [pm, s0, sS]
     refine wpAnyH_ready (rs := [3, 9]) (by kernel_rfl) (by simp) ?_
     refine AllReadyH.cons (o := ⟨some 123,.call { callee := .value (.func 7),args := #[.tmp 122],argTypes := #[28] },34,"exact.go:4569",#[⟨2,.data⟩,⟨1,.chain⟩],none⟩) rfl ?_ ?_
     intro K hK
     go_simp
     go_at_call_of 7 (Value.agg #[Value.int .i64 A1,Value.int .i64 B1,Value.bool P1.s,p10,p11,Value.bool Q1.s,q10,q11,Value.bool R1.s,r10,r11])
     refine (toLink_f A1 B1 P1 Q1 R1 p10 p11 q10 q11 r10 r11 _ (SS.out.lkI HA1.out) HL1.out).mono ?_
     rintro e wc_1 ⟨v0_yb, v1_yb, v2_yb, v3_yb, v4_yb, v5_yb, rfl, ho, hb⟩
     obtain ⟨A0yb, n0yb, c0yb, rfl⟩ := (ho.at_ 0 rfl).shape3
     obtain ⟨A1yb, n1yb, c1yb, rfl⟩ := (ho.at_ 1 rfl).shape3
     obtain ⟨A2yb, n2yb, c2yb, rfl⟩ := (ho.at_ 2 rfl).shape3
     obtain ⟨A3yb, n3yb, c3yb, rfl⟩ := (ho.at_ 3 rfl).shape3
     obtain ⟨A4yb, n4yb, c4yb, rfl⟩ := (ho.at_ 4 rfl).shape3
     obtain ⟨A5yb, n5yb, c5yb, rfl⟩ := (ho.at_ 5 rfl).shape3
     replace SS := Lib.hid (SS.out.rows ho hb)
     clear ho hb
     refine hK.out _ _ (mkS_131 _ _ _ SS.out) (fun hH => ?_)
     clear hK K
     try simp only [pm, s0, sS]
     refine wpAnyH_ready (rs := [4, 9]) (by kernel_rfl) (by simp) ?_
     refine AllReadyH.cons (o := ⟨some 124,.call { callee := .value (.func 8),args := #[.tmp 121,.tmp 123],argTypes := #[34,34] },35,"exact.go:4569",#[⟨1,.data⟩,⟨3,.data⟩,⟨3,.chain⟩],none⟩) rfl ?_ ?_
     intro K hK
     go_simp
     go_at_call 8
     refine (HI.out (.slice A0ya n0ya c0ya) (.slice A1ya n1ya c1ya) (.slice A2ya n2ya c2ya) (.slice A3ya n3ya c3ya) (.slice A4ya n4ya c4ya) (.slice A5ya n5ya c5ya) (.slice A0yb n0yb c0yb) (.slice A1yb n1yb c1yb) (.slice A2yb n2yb c2yb) (.slice A3yb n3yb c3yb) (.slice A4yb n4yb c4yb) (.slice A5yb n5yb c5yb) _ (SS.out.lk 1 rfl) (SS.out.lk 0 rfl)).mono ?_
     rintro e wc_9 ⟨v0_h, v1_h, v2_h, v3_h, v4_h, v5_h, v6_h, v7_h, rfl, ho, hb⟩
     obtain ⟨A0h, n0h, c0h, rfl⟩ := (ho.at_ 0 rfl).shape3
     obtain ⟨A1h, n1h, c1h, rfl⟩ := (ho.at_ 1 rfl).shape3
     obtain ⟨A2h, n2h, c2h, rfl⟩ := (ho.at_ 2 rfl).shape3
     obtain ⟨A3h, n3h, c3h, rfl⟩ := (ho.at_ 3 rfl).shape3
     obtain ⟨A4h, n4h, c4h, rfl⟩ := (ho.at_ 4 rfl).shape3
     obtain ⟨A5h, n5h, c5h, rfl⟩ := (ho.at_ 5 rfl).shape3
     obtain ⟨A6h, n6h, c6h, rfl⟩ := (ho.at_ 6 rfl).shape3
     obtain ⟨A7h, n7h, c7h, rfl⟩ := (ho.at_ 7 rfl).shape3
     replace SS := Lib.hid (SS.out.rows ho hb)
     clear ho hb
     refine hK.out _ _ (mkS_131 _ _ _ SS.out) (fun hH => ?_)
     clear hK K
     try simp only [pm, s0, sS]
     refine tkH 5 ?_ ⟨some 119,.move (.tmp 124),35,"exact.go:4569",#[⟨4,.data⟩],none⟩ ?_ ?_
     rotate_left
     · intro w9 hS; (try dsimp only at hS); go_simp; try with_reducible rfl
     try simp only [pm, s0, sS]
     refine tkH 6 ?_ ⟨some 125,.extract (.tmp 119) 0,34,"exact.go:4569",#[⟨5,.data⟩],none⟩ ?_ ?_
     rotate_left
     · intro w9 hS; (try dsimp only at hS); go_simp; try with_reducible rfl
     try simp only [pm, s0, sS]
     refine tkH 7 ?_ ⟨some 126,.extract (.tmp 119) 1,32,"exact.go:4569",#[⟨5,.data⟩,⟨11,.gcOnly .lateStores⟩],none⟩ ?_ ?_
     rotate_left
     · intro w9 hS; (try dsimp only at hS); go_simp; try with_reducible rfl
     try simp only [pm, s0, sS]
     refine tkH 8 ?_ ⟨some 127,.extract (.tmp 119) 2,4,"exact.go:4569",#[⟨5,.data⟩,⟨12,.gcOnly .lateStores⟩],none⟩ ?_ ?_
     rotate_left
     · intro w9 hS; (try dsimp only at hS); go_simp; try with_reducible rfl
     try simp only [pm, s0, sS]
     refine wpAnyH_ready (rs := [9]) (by kernel_rfl) (by simp) ?_
     refine AllReadyH.cons (o := ⟨some 17,.alloc 34,0,"exact.go:4569",#[],none⟩) rfl ?_ ?_
     intro K hK
     go_simp
     replace SS := Lib.hid (SS.out.allocE [.int .i64 0,.int .i64 0,.bool false,.slice none 0 0,.slice none 0 0,.bool false,.slice none 0 0,.slice none 0 0,.bool false,.slice none 0 0,.slice none 0 0] 34)
     simp only [List.cons_append, List.nil_append] at SS
     generalize hbk : Array.size (World.heap wc_9) = bkL at SS ⊢
     clear hbk
     generalize hwa : World.alloc _ _ = waL at SS ⊢
     clear hwa
     refine hK.out _ _ (mkS_131 _ _ _ SS.out) (fun hH => ?_)
     clear hK K
     try simp only [pm, s0, sS]
     replace SS := Lib.hid (SS.out.perm (List.Perm.cons _ (List.Perm.cons _ (List.Perm.cons _ (List.Perm.cons _ (List.Perm.cons _ (List.Perm.cons _ (List.Perm.cons _ (List.Perm.cons _ (List.Perm.swap _ _ _))))))))) (List.Perm.refl _))
     clear hH
     revert SS; revert waL; revert bkE; revert bkL; revert A0h n0h c0h A1h n1h c1h A2h n2h c2h A3h n3h c3h A4h n4h c4h A5h n5h c5h A6h n6h c6h A7h n7h c7h; revert A0yb n0yb c0yb A1yb n1yb c1yb A2yb n2yb c2yb A3yb n3yb c3yb A4yb n4yb c4yb A5yb n5yb c5yb; revert A0ya n0ya c0ya A1ya n1ya c1ya A2ya n2ya c2ya A3ya n3ya c3ya A4ya n4ya c4ya A5ya n5ya c5ya
     exact FIN trivial
     exact AllReadyH.nil
     refine AllReadyH.cons (o := ⟨some 17,.alloc 34,0,"exact.go:4569",#[],none⟩) rfl ?_ ?_
     intro K hK
     go_simp
     replace SS := Lib.hid (SS.out.allocE [.int .i64 0,.int .i64 0,.bool false,.slice none 0 0,.slice none 0 0,.bool false,.slice none 0 0,.slice none 0 0,.bool false,.slice none 0 0,.slice none 0 0] 34)
     simp only [List.cons_append, List.nil_append] at SS
     generalize hbk : Array.size (World.heap wc_1) = bkL at SS ⊢
     clear hbk
     generalize hwa : World.alloc _ _ = waL at SS ⊢
     clear hwa
     refine hK.out _ _ (mkS_131 _ _ _ SS.out) (fun hH => ?_)
     clear hK K
     try simp only [pm, s0, sS]
     refine wpAnyH_ready (rs := [4]) (by kernel_rfl) (by simp) ?_
     refine AllReadyH.cons (o := ⟨some 124,.call { callee := .value (.func 8),args := #[.tmp 121,.tmp 123],argTypes := #[34,34] },35,"exact.go:4569",#[⟨1,.data⟩,⟨3,.data⟩,⟨3,.chain⟩],none⟩) rfl ?_ ?_
     intro K hK
     go_simp
     go_at_call 8
     refine (HI.out (.slice A0ya n0ya c0ya) (.slice A1ya n1ya c1ya) (.slice A2ya n2ya c2ya) (.slice A3ya n3ya c3ya) (.slice A4ya n4ya c4ya) (.slice A5ya n5ya c5ya) (.slice A0yb n0yb c0yb) (.slice A1yb n1yb c1yb) (.slice A2yb n2yb c2yb) (.slice A3yb n3yb c3yb) (.slice A4yb n4yb c4yb) (.slice A5yb n5yb c5yb) _ (SS.out.lk 1 rfl) (SS.out.lk 0 rfl)).mono ?_
     rintro e wc_9 ⟨v0_h, v1_h, v2_h, v3_h, v4_h, v5_h, v6_h, v7_h, rfl, ho, hb⟩
     obtain ⟨A0h, n0h, c0h, rfl⟩ := (ho.at_ 0 rfl).shape3
     obtain ⟨A1h, n1h, c1h, rfl⟩ := (ho.at_ 1 rfl).shape3
     obtain ⟨A2h, n2h, c2h, rfl⟩ := (ho.at_ 2 rfl).shape3
     obtain ⟨A3h, n3h, c3h, rfl⟩ := (ho.at_ 3 rfl).shape3
     obtain ⟨A4h, n4h, c4h, rfl⟩ := (ho.at_ 4 rfl).shape3
     obtain ⟨A5h, n5h, c5h, rfl⟩ := (ho.at_ 5 rfl).shape3
     obtain ⟨A6h, n6h, c6h, rfl⟩ := (ho.at_ 6 rfl).shape3
     obtain ⟨A7h, n7h, c7h, rfl⟩ := (ho.at_ 7 rfl).shape3
     replace SS := Lib.hid (SS.out.rows ho hb)
     clear ho hb
     refine hK.out _ _ (mkS_131 _ _ _ SS.out) (fun hH => ?_)
     clear hK K
     try simp only [pm, s0, sS]
     refine tkH 5 ?_ ⟨some 119,.move (.tmp 124),35,"exact.go:4569",#[⟨4,.data⟩],none⟩ ?_ ?_
     rotate_left
     · intro w9 hS; (try dsimp only at hS); go_simp; try with_reducible rfl
     try simp only [pm, s0, sS]
     refine tkH 6 ?_ ⟨some 125,.extract (.tmp 119) 0,34,"exact.go:4569",#[⟨5,.data⟩],none⟩ ?_ ?_
     rotate_left
     · intro w9 hS; (try dsimp only at hS); go_simp; try with_reducible rfl
     try simp only [pm, s0, sS]
     refine tkH 7 ?_ ⟨some 126,.extract (.tmp 119) 1,32,"exact.go:4569",#[⟨5,.data⟩,⟨11,.gcOnly .lateStores⟩],none⟩ ?_ ?_
     rotate_left
     · intro w9 hS; (try dsimp only at hS); go_simp; try with_reducible rfl
     try simp only [pm, s0, sS]
     refine tkH 8 ?_ ⟨some 127,.extract (.tmp 119) 2,4,"exact.go:4569",#[⟨5,.data⟩,⟨12,.gcOnly .lateStores⟩],none⟩ ?_ ?_
     rotate_left
     · intro w9 hS; (try dsimp only at hS); go_simp; try with_reducible rfl
     try simp only [pm, s0, sS]
     replace SS := Lib.hid (SS.out.perm (List.Perm.cons _ (List.Perm.cons _ (List.Perm.cons _ (List.Perm.cons _ (List.Perm.cons _ (List.Perm.cons _ (List.Perm.cons _ (List.Perm.cons _ (List.Perm.swap _ _ _))))))))) (List.Perm.refl _))
     clear hH
     revert SS; revert wc_9; revert bkE; revert bkL; revert A0h n0h c0h A1h n1h c1h A2h n2h c2h A3h n3h c3h A4h n4h c4h A5h n5h c5h A6h n6h c6h A7h n7h c7h; revert A0yb n0yb c0yb A1yb n1yb c1yb A2yb n2yb c2yb A3yb n3yb c3yb A4yb n4yb c4yb A5yb n5yb c5yb; revert A0ya n0ya c0ya A1ya n1ya c1ya A2ya n2ya c2ya A3ya n3ya c3ya A4ya n4ya c4ya A5ya n5ya c5ya
     exact FIN trivial
     exact AllReadyH.nil
     exact AllReadyH.nil
     refine AllReadyH.cons (o := ⟨some 17,.alloc 34,0,"exact.go:4569",#[],none⟩) rfl ?_ ?_
     intro K hK
     go_simp
     replace SS := Lib.hid (SS.out.allocE [.int .i64 0,.int .i64 0,.bool false,.slice none 0 0,.slice none 0 0,.bool false,.slice none 0 0,.slice none 0 0,.bool false,.slice none 0 0,.slice none 0 0] 34)
     simp only [List.cons_append, List.nil_append] at SS
     generalize hbk : Array.size (World.heap waE) = bkL at SS ⊢
     clear hbk
     generalize hwa : World.alloc _ _ = waL at SS ⊢
     clear hwa
     refine hK.out _ _ (mkS_131 _ _ _ SS.out) (fun hH => ?_)
     clear hK K
     try simp only [pm, s0, sS]
     refine wpAnyH_ready (rs := [3]) (by kernel_rfl) (by simp) ?_
     refine AllReadyH.cons (o := ⟨some 123,.call { callee := .value (.func 7),args := #[.tmp 122],argTypes := #[28] },34,"exact.go:4569",#[⟨2,.data⟩,⟨1,.chain⟩],none⟩) rfl ?_ ?_
     intro K hK
     go_simp
     go_at_call_of 7 (Value.agg #[Value.int .i64 A1,Value.int .i64 B1,Value.bool P1.s,p10,p11,Value.bool Q1.s,q10,q11,Value.bool R1.s,r10,r11])
     refine (toLink_f A1 B1 P1 Q1 R1 p10 p11 q10 q11 r10 r11 _ (SS.out.lkI HA1.out) HL1.out).mono ?_
     rintro e wc_1 ⟨v0_yb, v1_yb, v2_yb, v3_yb, v4_yb, v5_yb, rfl, ho, hb⟩
     obtain ⟨A0yb, n0yb, c0yb, rfl⟩ := (ho.at_ 0 rfl).shape3
     obtain ⟨A1yb, n1yb, c1yb, rfl⟩ := (ho.at_ 1 rfl).shape3
     obtain ⟨A2yb, n2yb, c2yb, rfl⟩ := (ho.at_ 2 rfl).shape3
     obtain ⟨A3yb, n3yb, c3yb, rfl⟩ := (ho.at_ 3 rfl).shape3
     obtain ⟨A4yb, n4yb, c4yb, rfl⟩ := (ho.at_ 4 rfl).shape3
     obtain ⟨A5yb, n5yb, c5yb, rfl⟩ := (ho.at_ 5 rfl).shape3
     replace SS := Lib.hid (SS.out.rows ho hb)
     clear ho hb
     refine hK.out _ _ (mkS_131 _ _ _ SS.out) (fun hH => ?_)
     clear hK K
     try simp only [pm, s0, sS]
     refine wpAnyH_ready (rs := [4]) (by kernel_rfl) (by simp) ?_
     refine AllReadyH.cons (o := ⟨some 124,.call { callee := .value (.func 8),args := #[.tmp 121,.tmp 123],argTypes := #[34,34] },35,"exact.go:4569",#[⟨1,.data⟩,⟨3,.data⟩,⟨3,.chain⟩],none⟩) rfl ?_ ?_
     intro K hK
     go_simp
     go_at_call 8
     refine (HI.out (.slice A0ya n0ya c0ya) (.slice A1ya n1ya c1ya) (.slice A2ya n2ya c2ya) (.slice A3ya n3ya c3ya) (.slice A4ya n4ya c4ya) (.slice A5ya n5ya c5ya) (.slice A0yb n0yb c0yb) (.slice A1yb n1yb c1yb) (.slice A2yb n2yb c2yb) (.slice A3yb n3yb c3yb) (.slice A4yb n4yb c4yb) (.slice A5yb n5yb c5yb) _ (SS.out.lk 1 rfl) (SS.out.lk 0 rfl)).mono ?_
     rintro e wc_9 ⟨v0_h, v1_h, v2_h, v3_h, v4_h, v5_h, v6_h, v7_h, rfl, ho, hb⟩
     obtain ⟨A0h, n0h, c0h, rfl⟩ := (ho.at_ 0 rfl).shape3
     obtain ⟨A1h, n1h, c1h, rfl⟩ := (ho.at_ 1 rfl).shape3
     obtain ⟨A2h, n2h, c2h, rfl⟩ := (ho.at_ 2 rfl).shape3
     obtain ⟨A3h, n3h, c3h, rfl⟩ := (ho.at_ 3 rfl).shape3
     obtain ⟨A4h, n4h, c4h, rfl⟩ := (ho.at_ 4 rfl).shape3
     obtain ⟨A5h, n5h, c5h, rfl⟩ := (ho.at_ 5 rfl).shape3
     obtain ⟨A6h, n6h, c6h, rfl⟩ := (ho.at_ 6 rfl).shape3
     obtain ⟨A7h, n7h, c7h, rfl⟩ := (ho.at_ 7 rfl).shape3
     replace SS := Lib.hid (SS.out.rows ho hb)
     clear ho hb
     refine hK.out _ _ (mkS_131 _ _ _ SS.out) (fun hH => ?_)
     clear hK K
     try simp only [pm, s0, sS]
     refine tkH 5 ?_ ⟨some 119,.move (.tmp 124),35,"exact.go:4569",#[⟨4,.data⟩],none⟩ ?_ ?_
     rotate_left
     · intro w9 hS; (try dsimp only at hS); go_simp; try with_reducible rfl
     try simp only [pm, s0, sS]
     refine tkH 6 ?_ ⟨some 125,.extract (.tmp 119) 0,34,"exact.go:4569",#[⟨5,.data⟩],none⟩ ?_ ?_
     rotate_left
     · intro w9 hS; (try dsimp only at hS); go_simp; try with_reducible rfl
     try simp only [pm, s0, sS]
     refine tkH 7 ?_ ⟨some 126,.extract (.tmp 119) 1,32,"exact.go:4569",#[⟨5,.data⟩,⟨11,.gcOnly .lateStores⟩],none⟩ ?_ ?_
     rotate_left
     · intro w9 hS; (try dsimp only at hS); go_simp; try with_reducible rfl
     try simp only [pm, s0, sS]
     refine tkH 8 ?_ ⟨some 127,.extract (.tmp 119) 2,4,"exact.go:4569",#[⟨5,.data⟩,⟨12,.gcOnly .lateStores⟩],none⟩ ?_ ?_
     rotate_left
     · intro w9 hS; (try dsimp only at hS); go_simp; try with_reducible rfl
     try simp only [pm, s0, sS]
     replace SS := Lib.hid (SS.out.perm (List.Perm.cons _ (List.Perm.cons _ (List.Perm.cons _ (List.Perm.cons _ (List.Perm.cons _ (List.Perm.cons _ (List.Perm.cons _ (List.Perm.cons _ (List.Perm.swap _ _ _))))))))) (List.Perm.refl _))
     clear hH
     revert SS; revert wc_9; revert bkE; revert bkL; revert A0h n0h c0h A1h n1h c1h A2h n2h c2h A3h n3h c3h A4h n4h c4h A5h n5h c5h A6h n6h c6h A7h n7h c7h; revert A0yb n0yb c0yb A1yb n1yb c1yb A2yb n2yb c2yb A3yb n3yb c3yb A4yb n4yb c4yb A5yb n5yb c5yb; revert A0ya n0ya c0ya A1ya n1ya c1ya A2ya n2ya c2ya A3ya n3ya c3ya A4ya n4ya c4ya A5ya n5ya c5ya
     exact FIN trivial
     exact AllReadyH.nil
     exact AllReadyH.nil
     exact AllReadyH.nil
     exact AllReadyH.nil
     refine AllReadyH.cons (o := ⟨some 17,.alloc 34,0,"exact.go:4569",#[],none⟩) rfl ?_ ?_
     intro K hK
     go_simp
     replace SS := Lib.hid (SS.out.allocE [.int .i64 0,.int .i64 0,.bool false,.slice none 0 0,.slice none 0 0,.bool false,.slice none 0 0,.slice none 0 0,.bool false,.slice none 0 0,.slice none 0 0] 34)
     simp only [List.cons_append, List.nil_append] at SS
     generalize hbk : Array.size (World.heap wd) = bkL at SS ⊢
     clear hbk
     generalize hwa : World.alloc _ _ = waL at SS ⊢
     clear hwa
     refine hK.out _ _ (mkS_131 _ _ _ SS.out) (fun hH => ?_)
     clear hK K
     try simp only [pm, s0, sS]
     refine wpAnyH_ready (rs := [1, 10]) (by kernel_rfl) (by simp) ?_
     refine AllReadyH.cons (o := ⟨some 121,.call { callee := .value (.func 7),args := #[.tmp 120],argTypes := #[28] },34,"exact.go:4569",#[⟨0,.data⟩],none⟩) rfl ?_ ?_
     intro K hK
     go_simp
     go_at_call_of 7 (Value.agg #[Value.int .i64 A0,Value.int .i64 B0,Value.bool P0.s,p00,p01,Value.bool Q0.s,q00,q01,Value.bool R0.s,r00,r01])
     refine (toLink_f A0 B0 P0 Q0 R0 p00 p01 q00 q01 r00 r01 _ (SS.out.lkI HA0.out) HL0.out).mono ?_
     rintro e wc_0 ⟨v0_ya, v1_ya, v2_ya, v3_ya, v4_ya, v5_ya, rfl, ho, hb⟩
     obtain ⟨A0ya, n0ya, c0ya, rfl⟩ := (ho.at_ 0 rfl).shape3
     obtain ⟨A1ya, n1ya, c1ya, rfl⟩ := (ho.at_ 1 rfl).shape3
     obtain ⟨A2ya, n2ya, c2ya, rfl⟩ := (ho.at_ 2 rfl).shape3
     obtain ⟨A3ya, n3ya, c3ya, rfl⟩ := (ho.at_ 3 rfl).shape3
     obtain ⟨A4ya, n4ya, c4ya, rfl⟩ := (ho.at_ 4 rfl).shape3
     obtain ⟨A5ya, n5ya, c5ya, rfl⟩ := (ho.at_ 5 rfl).shape3
     replace SS := Lib.hid (SS.out.rows ho hb)
     clear ho hb
     refine hK.out _ _ (mkS_131 _ _ _ SS.out) (fun hH => ?_)
     clear hK K
     try simp only [pm, s0, sS]
     refine wpAnyH_ready (rs := [3, 10]) (by kernel_rfl) (by simp) ?_
     refine AllReadyH.cons (o := ⟨some 123,.call { callee := .value (.func 7),args := #[.tmp 122],argTypes := #[28] },34,"exact.go:4569",#[⟨2,.data⟩,⟨1,.chain⟩],none⟩) rfl ?_ ?_
     intro K hK
     go_simp
     go_at_call_of 7 (Value.agg #[Value.int .i64 A1,Value.int .i64 B1,Value.bool P1.s,p10,p11,Value.bool Q1.s,q10,q11,Value.bool R1.s,r10,r11])
     refine (toLink_f A1 B1 P1 Q1 R1 p10 p11 q10 q11 r10 r11 _ (SS.out.lkI HA1.out) HL1.out).mono ?_
     rintro e wc_1 ⟨v0_yb, v1_yb, v2_yb, v3_yb, v4_yb, v5_yb, rfl, ho, hb⟩
     obtain ⟨A0yb, n0yb, c0yb, rfl⟩ := (ho.at_ 0 rfl).shape3
     obtain ⟨A1yb, n1yb, c1yb, rfl⟩ := (ho.at_ 1 rfl).shape3
     obtain ⟨A2yb, n2yb, c2yb, rfl⟩ := (ho.at_ 2 rfl).shape3
     obtain ⟨A3yb, n3yb, c3yb, rfl⟩ := (ho.at_ 3 rfl).shape3
     obtain ⟨A4yb, n4yb, c4yb, rfl⟩ := (ho.at_ 4 rfl).shape3
     obtain ⟨A5yb, n5yb, c5yb, rfl⟩ := (ho.at_ 5 rfl).shape3
     replace SS := Lib.hid (SS.out.rows ho hb)
     clear ho hb
     refine hK.out _ _ (mkS_131 _ _ _ SS.out) (fun hH => ?_)
     clear hK K
     try simp only [pm, s0, sS]
     refine wpAnyH_ready (rs := [4, 10]) (by kernel_rfl) (by simp) ?_
     refine AllReadyH.cons (o := ⟨some 124,.call { callee := .value (.func 8),args := #[.tmp 121,.tmp 123],argTypes := #[34,34] },35,"exact.go:4569",#[⟨1,.data⟩,⟨3,.data⟩,⟨3,.chain⟩],none⟩) rfl ?_ ?_
     intro K hK
     go_simp
     go_at_call 8
     refine (HI.out (.slice A0ya n0ya c0ya) (.slice A1ya n1ya c1ya) (.slice A2ya n2ya c2ya) (.slice A3ya n3ya c3ya) (.slice A4ya n4ya c4ya) (.slice A5ya n5ya c5ya) (.slice A0yb n0yb c0yb) (.slice A1yb n1yb c1yb) (.slice A2yb n2yb c2yb) (.slice A3yb n3yb c3yb) (.slice A4yb n4yb c4yb) (.slice A5yb n5yb c5yb) _ (SS.out.lk 1 rfl) (SS.out.lk 0 rfl)).mono ?_
     rintro e wc_9 ⟨v0_h, v1_h, v2_h, v3_h, v4_h, v5_h, v6_h, v7_h, rfl, ho, hb⟩
     obtain ⟨A0h, n0h, c0h, rfl⟩ := (ho.at_ 0 rfl).shape3
     obtain ⟨A1h, n1h, c1h, rfl⟩ := (ho.at_ 1 rfl).shape3
     obtain ⟨A2h, n2h, c2h, rfl⟩ := (ho.at_ 2 rfl).shape3
     obtain ⟨A3h, n3h, c3h, rfl⟩ := (ho.at_ 3 rfl).shape3
     obtain ⟨A4h, n4h, c4h, rfl⟩ := (ho.at_ 4 rfl).shape3
     obtain ⟨A5h, n5h, c5h, rfl⟩ := (ho.at_ 5 rfl).shape3
     obtain ⟨A6h, n6h, c6h, rfl⟩ := (ho.at_ 6 rfl).shape3
     obtain ⟨A7h, n7h, c7h, rfl⟩ := (ho.at_ 7 rfl).shape3
     replace SS := Lib.hid (SS.out.rows ho hb)
     clear ho hb
     refine hK.out _ _ (mkS_131 _ _ _ SS.out) (fun hH => ?_)
     clear hK K
     try simp only [pm, s0, sS]
     refine tkH 5 ?_ ⟨some 119,.move (.tmp 124),35,"exact.go:4569",#[⟨4,.data⟩],none⟩ ?_ ?_
     rotate_left
     · intro w9 hS; (try dsimp only at hS); go_simp; try with_reducible rfl
     try simp only [pm, s0, sS]
     refine tkH 6 ?_ ⟨some 125,.extract (.tmp 119) 0,34,"exact.go:4569",#[⟨5,.data⟩],none⟩ ?_ ?_
     rotate_left
     · intro w9 hS; (try dsimp only at hS); go_simp; try with_reducible rfl
     try simp only [pm, s0, sS]
     refine tkH 7 ?_ ⟨some 126,.extract (.tmp 119) 1,32,"exact.go:4569",#[⟨5,.data⟩,⟨11,.gcOnly .lateStores⟩],none⟩ ?_ ?_
     rotate_left
     · intro w9 hS; (try dsimp only at hS); go_simp; try with_reducible rfl
     try simp only [pm, s0, sS]
     refine tkH 8 ?_ ⟨some 127,.extract (.tmp 119) 2,4,"exact.go:4569",#[⟨5,.data⟩,⟨12,.gcOnly .lateStores⟩],none⟩ ?_ ?_
     rotate_left
     · intro w9 hS; (try dsimp only at hS); go_simp; try with_reducible rfl
     try simp only [pm, s0, sS]
     refine wpAnyH_ready (rs := [10]) (by kernel_rfl) (by simp) ?_
     refine AllReadyH.cons (o := ⟨some 18,.alloc 32,0,"exact.go:4569",#[],none⟩) rfl ?_ ?_
     intro K hK
     go_simp
     replace SS := Lib.hid (SS.out.allocE [.bool false,.slice none 0 0,.slice none 0 0] 32)
     simp only [List.cons_append, List.nil_append] at SS
     generalize hbk : Array.size (World.heap wc_9) = bkE at SS ⊢
     clear hbk
     generalize hwa : World.alloc _ _ = waE at SS ⊢
     clear hwa
     refine hK.out _ _ (mkS_131 _ _ _ SS.out) (fun hH => ?_)
     clear hK K
     try simp only [pm, s0, sS]
     clear hH
     revert SS; revert waE; revert bkE; revert bkL; revert A0h n0h c0h A1h n1h c1h A2h n2h c2h A3h n3h c3h A4h n4h c4h A5h n5h c5h A6h n6h c6h A7h n7h c7h; revert A0yb n0yb c0yb A1yb n1yb c1yb A2yb n2yb c2yb A3yb n3yb c3yb A4yb n4yb c4yb A5yb n5yb c5yb; revert A0ya n0ya c0ya A1ya n1ya c1ya A2ya n2ya c2ya A3ya n3ya c3ya A4ya n4ya c4ya A5ya n5ya c5ya
     exact FIN trivial
     exact AllReadyH.nil
     refine AllReadyH.cons (o := ⟨some 18,.alloc 32,0,"exact.go:4569",#[],none⟩) rfl ?_ ?_
     intro K hK
     go_simp
     replace SS := Lib.hid (SS.out.allocE [.bool false,.slice none 0 0,.slice none 0 0] 32)
     simp only [List.cons_append, List.nil_append] at SS
     generalize hbk : Array.size (World.heap wc_1) = bkE at SS ⊢
     clear hbk
     generalize hwa : World.alloc _ _ = waE at SS ⊢
     clear hwa
     refine hK.out _ _ (mkS_131 _ _ _ SS.out) (fun hH => ?_)
     clear hK K
     try simp only [pm, s0, sS]
     refine wpAnyH_ready (rs := [4]) (by kernel_rfl) (by simp) ?_
     refine AllReadyH.cons (o := ⟨some 124,.call { callee := .value (.func 8),args := #[.tmp 121,.tmp 123],argTypes := #[34,34] },35,"exact.go:4569",#[⟨1,.data⟩,⟨3,.data⟩,⟨3,.chain⟩],none⟩) rfl ?_ ?_
     intro K hK
     go_simp
     go_at_call 8
     refine (HI.out (.slice A0ya n0ya c0ya) (.slice A1ya n1ya c1ya) (.slice A2ya n2ya c2ya) (.slice A3ya n3ya c3ya) (.slice A4ya n4ya c4ya) (.slice A5ya n5ya c5ya) (.slice A0yb n0yb c0yb) (.slice A1yb n1yb c1yb) (.slice A2yb n2yb c2yb) (.slice A3yb n3yb c3yb) (.slice A4yb n4yb c4yb) (.slice A5yb n5yb c5yb) _ (SS.out.lk 1 rfl) (SS.out.lk 0 rfl)).mono ?_
     rintro e wc_9 ⟨v0_h, v1_h, v2_h, v3_h, v4_h, v5_h, v6_h, v7_h, rfl, ho, hb⟩
     obtain ⟨A0h, n0h, c0h, rfl⟩ := (ho.at_ 0 rfl).shape3
     obtain ⟨A1h, n1h, c1h, rfl⟩ := (ho.at_ 1 rfl).shape3
     obtain ⟨A2h, n2h, c2h, rfl⟩ := (ho.at_ 2 rfl).shape3
     obtain ⟨A3h, n3h, c3h, rfl⟩ := (ho.at_ 3 rfl).shape3
     obtain ⟨A4h, n4h, c4h, rfl⟩ := (ho.at_ 4 rfl).shape3
     obtain ⟨A5h, n5h, c5h, rfl⟩ := (ho.at_ 5 rfl).shape3
     obtain ⟨A6h, n6h, c6h, rfl⟩ := (ho.at_ 6 rfl).shape3
     obtain ⟨A7h, n7h, c7h, rfl⟩ := (ho.at_ 7 rfl).shape3
     replace SS := Lib.hid (SS.out.rows ho hb)
     clear ho hb
     refine hK.out _ _ (mkS_131 _ _ _ SS.out) (fun hH => ?_)
     clear hK K
     try simp only [pm, s0, sS]
     refine tkH 5 ?_ ⟨some 119,.move (.tmp 124),35,"exact.go:4569",#[⟨4,.data⟩],none⟩ ?_ ?_
     rotate_left
     · intro w9 hS; (try dsimp only at hS); go_simp; try with_reducible rfl
     try simp only [pm, s0, sS]
     refine tkH 6 ?_ ⟨some 125,.extract (.tmp 119) 0,34,"exact.go:4569",#[⟨5,.data⟩],none⟩ ?_ ?_
     rotate_left
     · intro w9 hS; (try dsimp only at hS); go_simp; try with_reducible rfl
     try simp only [pm, s0, sS]
     refine tkH 7 ?_ ⟨some 126,.extract (.tmp 119) 1,32,"exact.go:4569",#[⟨5,.data⟩,⟨11,.gcOnly .lateStores⟩],none⟩ ?_ ?_
     rotate_left
     · intro w9 hS; (try dsimp only at hS); go_simp; try with_reducible rfl
     try simp only [pm, s0, sS]
     refine tkH 8 ?_ ⟨some 127,.extract (.tmp 119) 2,4,"exact.go:4569",#[⟨5,.data⟩,⟨12,.gcOnly .lateStores⟩],none⟩ ?_ ?_
     rotate_left
     · intro w9 hS; (try dsimp only at hS); go_simp; try with_reducible rfl
     try simp only [pm, s0, sS]
     clear hH
     revert SS; revert wc_9; revert bkE; revert bkL; revert A0h n0h c0h A1h n1h c1h A2h n2h c2h A3h n3h c3h A4h n4h c4h A5h n5h c5h A6h n6h c6h A7h n7h c7h; revert A0yb n0yb c0yb A1yb n1yb c1yb A2yb n2yb c2yb A3yb n3yb c3yb A4yb n4yb c4yb A5yb n5yb c5yb; revert A0ya n0ya c0ya A1ya n1ya c1ya A2ya n2ya c2ya A3ya n3ya c3ya A4ya n4ya c4ya A5ya n5ya c5ya
     exact FIN trivial
     exact AllReadyH.nil
     exact AllReadyH.nil
     refine AllReadyH.cons (o := ⟨some 18,.alloc 32,0,"exact.go:4569",#[],none⟩) rfl ?_ ?_
     intro K hK
     go_simp
     replace SS := Lib.hid (SS.out.allocE [.bool false,.slice none 0 0,.slice none 0 0] 32)
     simp only [List.cons_append, List.nil_append] at SS
     generalize hbk : Array.size (World.heap wc_0) = bkE at SS ⊢
     clear hbk
     generalize hwa : World.alloc _ _ = waE at SS ⊢
     clear hwa
     refine hK.out _ _ (mkS_131 _ _ _ SS.out) (fun hH => ?_)
     clear hK K
     try simp only [pm, s0, sS]
     refine wpAnyH_ready (rs := [3]) (by kernel_rfl) (by simp) ?_
     refine AllReadyH.cons (o := ⟨some 123,.call { callee := .value (.func 7),args := #[.tmp 122],argTypes := #[28] },34,"exact.go:4569",#[⟨2,.data⟩,⟨1,.chain⟩],none⟩) rfl ?_ ?_
     intro K hK
     go_simp
     go_at_call_of 7 (Value.agg #[Value.int .i64 A1,Value.int .i64 B1,Value.bool P1.s,p10,p11,Value.bool Q1.s,q10,q11,Value.bool R1.s,r10,r11])
     refine (toLink_f A1 B1 P1 Q1 R1 p10 p11 q10 q11 r10 r11 _ (SS.out.lkI HA1.out) HL1.out).mono ?_
     rintro e wc_1 ⟨v0_yb, v1_yb, v2_yb, v3_yb, v4_yb, v5_yb, rfl, ho, hb⟩
     obtain ⟨A0yb, n0yb, c0yb, rfl⟩ := (ho.at_ 0 rfl).shape3
     obtain ⟨A1yb, n1yb, c1yb, rfl⟩ := (ho.at_ 1 rfl).shape3
     obtain ⟨A2yb, n2yb, c2yb, rfl⟩ := (ho.at_ 2 rfl).shape3
     obtain ⟨A3yb, n3yb, c3yb, rfl⟩ := (ho.at_ 3 rfl).shape3
     obtain ⟨A4yb, n4yb, c4yb, rfl⟩ := (ho.at_ 4 rfl).shape3
     obtain ⟨A5yb, n5yb, c5yb, rfl⟩ := (ho.at_ 5 rfl).shape3
     replace SS := Lib.hid (SS.out.rows ho hb)
     clear ho hb
     refine hK.out _ _ (mkS_131 _ _ _ SS.out) (fun hH => ?_)
     clear hK K
     try simp only [pm, s0, sS]
     refine wpAnyH_ready (rs := [4]) (by kernel_rfl) (by simp) ?_
     refine AllReadyH.cons (o := ⟨some 124,.call { callee := .value (.func 8),args := #[.tmp 121,.tmp 123],argTypes := #[34,34] },35,"exact.go:4569",#[⟨1,.data⟩,⟨3,.data⟩,⟨3,.chain⟩],none⟩) rfl ?_ ?_
     intro K hK
     go_simp
     go_at_call 8
     refine (HI.out (.slice A0ya n0ya c0ya) (.slice A1ya n1ya c1ya) (.slice A2ya n2ya c2ya) (.slice A3ya n3ya c3ya) (.slice A4ya n4ya c4ya) (.slice A5ya n5ya c5ya) (.slice A0yb n0yb c0yb) (.slice A1yb n1yb c1yb) (.slice A2yb n2yb c2yb) (.slice A3yb n3yb c3yb) (.slice A4yb n4yb c4yb) (.slice A5yb n5yb c5yb) _ (SS.out.lk 1 rfl) (SS.out.lk 0 rfl)).mono ?_
     rintro e wc_9 ⟨v0_h, v1_h, v2_h, v3_h, v4_h, v5_h, v6_h, v7_h, rfl, ho, hb⟩
     obtain ⟨A0h, n0h, c0h, rfl⟩ := (ho.at_ 0 rfl).shape3
     obtain ⟨A1h, n1h, c1h, rfl⟩ := (ho.at_ 1 rfl).shape3
     obtain ⟨A2h, n2h, c2h, rfl⟩ := (ho.at_ 2 rfl).shape3
     obtain ⟨A3h, n3h, c3h, rfl⟩ := (ho.at_ 3 rfl).shape3
     obtain ⟨A4h, n4h, c4h, rfl⟩ := (ho.at_ 4 rfl).shape3
     obtain ⟨A5h, n5h, c5h, rfl⟩ := (ho.at_ 5 rfl).shape3
     obtain ⟨A6h, n6h, c6h, rfl⟩ := (ho.at_ 6 rfl).shape3
     obtain ⟨A7h, n7h, c7h, rfl⟩ := (ho.at_ 7 rfl).shape3
     replace SS := Lib.hid (SS.out.rows ho hb)
     clear ho hb
     refine hK.out _ _ (mkS_131 _ _ _ SS.out) (fun hH => ?_)
     clear hK K
     try simp only [pm, s0, sS]
     refine tkH 5 ?_ ⟨some 119,.move (.tmp 124),35,"exact.go:4569",#[⟨4,.data⟩],none⟩ ?_ ?_
     rotate_left
     · intro w9 hS; (try dsimp only at hS); go_simp; try with_reducible rfl
     try simp only [pm, s0, sS]
     refine tkH 6 ?_ ⟨some 125,.extract (.tmp 119) 0,34,"exact.go:4569",#[⟨5,.data⟩],none⟩ ?_ ?_
     rotate_left
     · intro w9 hS; (try dsimp only at hS); go_simp; try with_reducible rfl
     try simp only [pm, s0, sS]
     refine tkH 7 ?_ ⟨some 126,.extract (.tmp 119) 1,32,"exact.go:4569",#[⟨5,.data⟩,⟨11,.gcOnly .lateStores⟩],none⟩ ?_ ?_
     rotate_left
     · intro w9 hS; (try dsimp only at hS); go_simp; try with_reducible rfl
     try simp only [pm, s0, sS]
     refine tkH 8 ?_ ⟨some 127,.extract (.tmp 119) 2,4,"exact.go:4569",#[⟨5,.data⟩,⟨12,.gcOnly .lateStores⟩],none⟩ ?_ ?_
     rotate_left
     · intro w9 hS; (try dsimp only at hS); go_simp; try with_reducible rfl
     try simp only [pm, s0, sS]
     clear hH
     revert SS; revert wc_9; revert bkE; revert bkL; revert A0h n0h c0h A1h n1h c1h A2h n2h c2h A3h n3h c3h A4h n4h c4h A5h n5h c5h A6h n6h c6h A7h n7h c7h; revert A0yb n0yb c0yb A1yb n1yb c1yb A2yb n2yb c2yb A3yb n3yb c3yb A4yb n4yb c4yb A5yb n5yb c5yb; revert A0ya n0ya c0ya A1ya n1ya c1ya A2ya n2ya c2ya A3ya n3ya c3ya A4ya n4ya c4ya A5ya n5ya c5ya
     exact FIN trivial
     exact AllReadyH.nil
     exact AllReadyH.nil
     exact AllReadyH.nil
     refine AllReadyH.cons (o := ⟨some 18,.alloc 32,0,"exact.go:4569",#[],none⟩) rfl ?_ ?_
     intro K hK
     go_simp
     replace SS := Lib.hid (SS.out.allocE [.bool false,.slice none 0 0,.slice none 0 0] 32)
     simp only [List.cons_append, List.nil_append] at SS
     generalize hbk : Array.size (World.heap waL) = bkE at SS ⊢
     clear hbk
     generalize hwa : World.alloc _ _ = waE at SS ⊢
     clear hwa
     refine hK.out _ _ (mkS_131 _ _ _ SS.out) (fun hH => ?_)
     clear hK K
     try simp only [pm, s0, sS]
     refine wpAnyH_ready (rs := [1]) (by kernel_rfl) (by simp) ?_
     refine AllReadyH.cons (o := ⟨some 121,.call { callee := .value (.func 7),args := #[.tmp 120],argTypes := #[28] },34,"exact.go:4569",#[⟨0,.data⟩],none⟩) rfl ?_ ?_
     intro K hK
     go_simp
     go_at_call_of 7 (Value.agg #[Value.int .i64 A0,Value.int .i64 B0,Value.bool P0.s,p00,p01,Value.bool Q0.s,q00,q01,Value.bool R0.s,r00,r01])
     refine (toLink_f A0 B0 P0 Q0 R0 p00 p01 q00 q01 r00 r01 _ (SS.out.lkI HA0.out) HL0.out).mono ?_
     rintro e wc_0 ⟨v0_ya, v1_ya, v2_ya, v3_ya, v4_ya, v5_ya, rfl, ho, hb⟩
     obtain ⟨A0ya, n0ya, c0ya, rfl⟩ := (ho.at_ 0 rfl).shape3
     obtain ⟨A1ya, n1ya, c1ya, rfl⟩ := (ho.at_ 1 rfl).shape3
     obtain ⟨A2ya, n2ya, c2ya, rfl⟩ := (ho.at_ 2 rfl).shape3
     obtain ⟨A3ya, n3ya, c3ya, rfl⟩ := (ho.at_ 3 rfl).shape3
     obtain ⟨A4ya, n4ya, c4ya, rfl⟩ := (ho.at_ 4 rfl).shape3
     obtain ⟨A5ya, n5ya, c5ya, rfl⟩ := (ho.at_ 5 rfl).shape3
     replace SS := Lib.hid (SS.out.rows ho hb)
     clear ho hb
     refine hK.out _ _ (mkS_131 _ _ _ SS.out) (fun hH => ?_)
     clear hK K
     try simp only [pm, s0, sS]
     refine wpAnyH_ready (rs := [3]) (by kernel_rfl) (by simp) ?_
     refine AllReadyH.cons (o := ⟨some 123,.call { callee := .value (.func 7),args := #[.tmp 122],argTypes := #[28] },34,"exact.go:4569",#[⟨2,.data⟩,⟨1,.chain⟩],none⟩) rfl ?_ ?_
     intro K hK
     go_simp
     go_at_call_of 7 (Value.agg #[Value.int .i64 A1,Value.int .i64 B1,Value.bool P1.s,p10,p11,Value.bool Q1.s,q10,q11,Value.bool R1.s,r10,r11])
     refine (toLink_f A1 B1 P1 Q1 R1 p10 p11 q10 q11 r10 r11 _ (SS.out.lkI HA1.out) HL1.out).mono ?_
     rintro e wc_1 ⟨v0_yb, v1_yb, v2_yb, v3_yb, v4_yb, v5_yb, rfl, ho, hb⟩
     obtain ⟨A0yb, n0yb, c0yb, rfl⟩ := (ho.at_ 0 rfl).shape3
     obtain ⟨A1yb, n1yb, c1yb, rfl⟩ := (ho.at_ 1 rfl).shape3
     obtain ⟨A2yb, n2yb, c2yb, rfl⟩ := (ho.at_ 2 rfl).shape3
     obtain ⟨A3yb, n3yb, c3yb, rfl⟩ := (ho.at_ 3 rfl).shape3
     obtain ⟨A4yb, n4yb, c4yb, rfl⟩ := (ho.at_ 4 rfl).shape3
     obtain ⟨A5yb, n5yb, c5yb, rfl⟩ := (ho.at_ 5 rfl).shape3
     replace SS := Lib.hid (SS.out.rows ho hb)
     clear ho hb
     refine hK.out _ _ (mkS_131 _ _ _ SS.out) (fun hH => ?_)
     clear hK K
     try simp only [pm, s0, sS]
     refine wpAnyH_ready (rs := [4]) (by kernel_rfl) (by simp) ?_
     refine AllReadyH.cons (o := ⟨some 124,.call { callee := .value (.func 8),args := #[.tmp 121,.tmp 123],argTypes := #[34,34] },35,"exact.go:4569",#[⟨1,.data⟩,⟨3,.data⟩,⟨3,.chain⟩],none⟩) rfl ?_ ?_
     intro K hK
     go_simp
     go_at_call 8
     refine (HI.out (.slice A0ya n0ya c0ya) (.slice A1ya n1ya c1ya) (.slice A2ya n2ya c2ya) (.slice A3ya n3ya c3ya) (.slice A4ya n4ya c4ya) (.slice A5ya n5ya c5ya) (.slice A0yb n0yb c0yb) (.slice A1yb n1yb c1yb) (.slice A2yb n2yb c2yb) (.slice A3yb n3yb c3yb) (.slice A4yb n4yb c4yb) (.slice A5yb n5yb c5yb) _ (SS.out.lk 1 rfl) (SS.out.lk 0 rfl)).mono ?_
     rintro e wc_9 ⟨v0_h, v1_h, v2_h, v3_h, v4_h, v5_h, v6_h, v7_h, rfl, ho, hb⟩
     obtain ⟨A0h, n0h, c0h, rfl⟩ := (ho.at_ 0 rfl).shape3
     obtain ⟨A1h, n1h, c1h, rfl⟩ := (ho.at_ 1 rfl).shape3
     obtain ⟨A2h, n2h, c2h, rfl⟩ := (ho.at_ 2 rfl).shape3
     obtain ⟨A3h, n3h, c3h, rfl⟩ := (ho.at_ 3 rfl).shape3
     obtain ⟨A4h, n4h, c4h, rfl⟩ := (ho.at_ 4 rfl).shape3
     obtain ⟨A5h, n5h, c5h, rfl⟩ := (ho.at_ 5 rfl).shape3
     obtain ⟨A6h, n6h, c6h, rfl⟩ := (ho.at_ 6 rfl).shape3
     obtain ⟨A7h, n7h, c7h, rfl⟩ := (ho.at_ 7 rfl).shape3
     replace SS := Lib.hid (SS.out.rows ho hb)
     clear ho hb
     refine hK.out _ _ (mkS_131 _ _ _ SS.out) (fun hH => ?_)
     clear hK K
     try simp only [pm, s0, sS]
     refine tkH 5 ?_ ⟨some 119,.move (.tmp 124),35,"exact.go:4569",#[⟨4,.data⟩],none⟩ ?_ ?_
     rotate_left
     · intro w9 hS; (try dsimp only at hS); go_simp; try with_reducible rfl
     try simp only [pm, s0, sS]
     refine tkH 6 ?_ ⟨some 125,.extract (.tmp 119) 0,34,"exact.go:4569",#[⟨5,.data⟩],none⟩ ?_ ?_
     rotate_left
     · intro w9 hS; (try dsimp only at hS); go_simp; try with_reducible rfl
     try simp only [pm, s0, sS]
     refine tkH 7 ?_ ⟨some 126,.extract (.tmp 119) 1,32,"exact.go:4569",#[⟨5,.data⟩,⟨11,.gcOnly .lateStores⟩],none⟩ ?_ ?_
     rotate_left
     · intro w9 hS; (try dsimp only at hS); go_simp; try with_reducible rfl
     try simp only [pm, s0, sS]
     refine tkH 8 ?_ ⟨some 127,.extract (.tmp 119) 2,4,"exact.go:4569",#[⟨5,.data⟩,⟨12,.gcOnly .lateStores⟩],none⟩ ?_ ?_
     rotate_left
     · intro w9 hS; (try dsimp only at hS); go_simp; try with_reducible rfl
     try simp only [pm, s0, sS]
     clear hH
     revert SS; revert wc_9; revert bkE; revert bkL; revert A0h n0h c0h A1h n1h c1h A2h n2h c2h A3h n3h c3h A4h n4h c4h A5h n5h c5h A6h n6h c6h A7h n7h c7h; revert A0yb n0yb c0yb A1yb n1yb c1yb A2yb n2yb c2yb A3yb n3yb c3yb A4yb n4yb c4yb A5yb n5yb c5yb; revert A0ya n0ya c0ya A1ya n1ya c1ya A2ya n2ya c2ya A3ya n3ya c3ya A4ya n4ya c4ya A5ya n5ya c5ya
     exact FIN trivial
     exact AllReadyH.nil
     exact AllReadyH.nil
     exact AllReadyH.nil
     exact AllReadyH.nil
     refine AllReadyH.cons (o := ⟨some 18,.alloc 32,0,"exact.go:4569",#[],none⟩) rfl ?_ ?_
     intro K hK
     go_simp
     replace SS := Lib.hid (SS.out.allocE [.bool false,.slice none 0 0,.slice none 0 0] 32)
     simp only [List.cons_append, List.nil_append] at SS
     generalize hbk : Array.size (World.heap wd) = bkE at SS ⊢
     clear hbk
     generalize hwa : World.alloc _ _ = waE at SS ⊢
     clear hwa
     refine hK.out _ _ (mkS_131 _ _ _ SS.out) (fun hH => ?_)
     clear hK K
     try simp only [pm, s0, sS]
     refine wpAnyH_ready (rs := [1, 9]) (by kernel_rfl) (by simp) ?_
     refine AllReadyH.cons (o := ⟨some 121,.call { callee := .value (.func 7),args := #[.tmp 120],argTypes := #[28] },34,"exact.go:4569",#[⟨0,.data⟩],none⟩) rfl ?_ ?_
     intro K hK
     go_simp
     go_at_call_of 7 (Value.agg #[Value.int .i64 A0,Value.int .i64 B0,Value.bool P0.s,p00,p01,Value.bool Q0.s,q00,q01,Value.bool R0.s,r00,r01])
     refine (toLink_f A0 B0 P0 Q0 R0 p00 p01 q00 q01 r00 r01 _ (SS.out.lkI HA0.out) HL0.out).mono ?_
     rintro e wc_0 ⟨v0_ya, v1_ya, v2_ya, v3_ya, v4_ya, v5_ya, rfl, ho, hb⟩
     obtain ⟨A0ya, n0ya, c0ya, rfl⟩ := (ho.at_ 0 rfl).shape3
     obtain ⟨A1ya, n1ya, c1ya, rfl⟩ := (ho.at_ 1 rfl).shape3
     obtain ⟨A2ya, n2ya, c2ya, rfl⟩ := (ho.at_ 2 rfl).shape3
     obtain ⟨A3ya, n3ya, c3ya, rfl⟩ := (ho.at_ 3 rfl).shape3
     obtain ⟨A4ya, n4ya, c4ya, rfl⟩ := (ho.at_ 4 rfl).shape3
     obtain ⟨A5ya, n5ya, c5ya, rfl⟩ := (ho.at_ 5 rfl).shape3
     replace SS := Lib.hid (SS.out.rows ho hb)
     clear ho hb
     refine hK.out _ _ (mkS_131 _ _ _ SS.out) (fun hH => ?_)
     clear hK K
     try simp only [pm, s0, sS]
     refine wpAnyH_ready (rs := [3, 9]) (by kernel_rfl) (by simp) ?_
     refine AllReadyH.cons (o := ⟨some 123,.call { callee := .value (.func 7),args := #[.tmp 122],argTypes := #[28] },34,"exact.go:4569",#[⟨2,.data⟩,⟨1,.chain⟩],none⟩) rfl ?_ ?_
     intro K hK
     go_simp
     go_at_call_of 7 (Value.agg #[Value.int .i64 A1,Value.int .i64 B1,Value.bool P1.s,p10,p11,Value.bool Q1.s,q10,q11,Value.bool R1.s,r10,r11])
     refine (toLink_f A1 B1 P1 Q1 R1 p10 p11 q10 q11 r10 r11 _ (SS.out.lkI HA1.out) HL1.out).mono ?_
     rintro e wc_1 ⟨v0_yb, v1_yb, v2_yb, v3_yb, v4_yb, v5_yb, rfl, ho, hb⟩
     obtain ⟨A0yb, n0yb, c0yb, rfl⟩ := (ho.at_ 0 rfl).shape3
     obtain ⟨A1yb, n1yb, c1yb, rfl⟩ := (ho.at_ 1 rfl).shape3
     obtain ⟨A2yb, n2yb, c2yb, rfl⟩ := (ho.at_ 2 rfl).shape3
     obtain ⟨A3yb, n3yb, c3yb, rfl⟩ := (ho.at_ 3 rfl).shape3
     obtain ⟨A4yb, n4yb, c4yb, rfl⟩ := (ho.at_ 4 rfl).shape3
     obtain ⟨A5yb, n5yb, c5yb, rfl⟩ := (ho.at_ 5 rfl).shape3
     replace SS := Lib.hid (SS.out.rows ho hb)
     clear ho hb
     refine hK.out _ _ (mkS_131 _ _ _ SS.out) (fun hH => ?_)
     clear hK K
     try simp only [pm, s0, sS]
     refine wpAnyH_ready (rs := [4, 9]) (by kernel_rfl) (by simp) ?_
     refine AllReadyH.cons (o := ⟨some 124,.call { callee := .value (.func 8),args := #[.tmp 121,.tmp 123],argTypes := #[34,34] },35,"exact.go:4569",#[⟨1,.data⟩,⟨3,.data⟩,⟨3,.chain⟩],none⟩) rfl ?_ ?_
     intro K hK
     go_simp
     go_at_call 8
     refine (HI.out (.slice A0ya n0ya c0ya) (.slice A1ya n1ya c1ya) (.slice A2ya n2ya c2ya) (.slice A3ya n3ya c3ya) (.slice A4ya n4ya c4ya) (.slice A5ya n5ya c5ya) (.slice A0yb n0yb c0yb) (.slice A1yb n1yb c1yb) (.slice A2yb n2yb c2yb) (.slice A3yb n3yb c3yb) (.slice A4yb n4yb c4yb) (.slice A5yb n5yb c5yb) _ (SS.out.lk 1 rfl) (SS.out.lk 0 rfl)).mono ?_
     rintro e wc_9 ⟨v0_h, v1_h, v2_h, v3_h, v4_h, v5_h, v6_h, v7_h, rfl, ho, hb⟩
     obtain ⟨A0h, n0h, c0h, rfl⟩ := (ho.at_ 0 rfl).shape3
     obtain ⟨A1h, n1h, c1h, rfl⟩ := (ho.at_ 1 rfl).shape3
     obtain ⟨A2h, n2h, c2h, rfl⟩ := (ho.at_ 2 rfl).shape3
     obtain ⟨A3h, n3h, c3h, rfl⟩ := (ho.at_ 3 rfl).shape3
     obtain ⟨A4h, n4h, c4h, rfl⟩ := (ho.at_ 4 rfl).shape3
     obtain ⟨A5h, n5h, c5h, rfl⟩ := (ho.at_ 5 rfl).shape3
     obtain ⟨A6h, n6h, c6h, rfl⟩ := (ho.at_ 6 rfl).shape3
     obtain ⟨A7h, n7h, c7h, rfl⟩ := (ho.at_ 7 rfl).shape3
     replace SS := Lib.hid (SS.out.rows ho hb)
     clear ho hb
     refine hK.out _ _ (mkS_131 _ _ _ SS.out) (fun hH => ?_)
     clear hK K
     try simp only [pm, s0, sS]
     refine tkH 5 ?_ ⟨some 119,.move (.tmp 124),35,"exact.go:4569",#[⟨4,.data⟩],none⟩ ?_ ?_
     rotate_left
     · intro w9 hS; (try dsimp only at hS); go_simp; try with_reducible rfl
     try simp only [pm, s0, sS]
     refine tkH 6 ?_ ⟨some 125,.extract (.tmp 119) 0,34,"exact.go:4569",#[⟨5,.data⟩],none⟩ ?_ ?_
     rotate_left
     · intro w9 hS; (try dsimp only at hS); go_simp; try with_reducible rfl
     try simp only [pm, s0, sS]
     refine tkH 7 ?_ ⟨some 126,.extract (.tmp 119) 1,32,"exact.go:4569",#[⟨5,.data⟩,⟨11,.gcOnly .lateStores⟩],none⟩ ?_ ?_
     rotate_left
     · intro w9 hS; (try dsimp only at hS); go_simp; try with_reducible rfl
     try simp only [pm, s0, sS]
     refine tkH 8 ?_ ⟨some 127,.extract (.tmp 119) 2,4,"exact.go:4569",#[⟨5,.data⟩,⟨12,.gcOnly .lateStores⟩],none⟩ ?_ ?_
     rotate_left
     · intro w9 hS; (try dsimp only at hS); go_simp; try with_reducible rfl
     try simp only [pm, s0, sS]
     refine wpAnyH_ready (rs := [9]) (by kernel_rfl) (by simp) ?_
     refine AllReadyH.cons (o := ⟨some 17,.alloc 34,0,"exact.go:4569",#[],none⟩) rfl ?_ ?_
     intro K hK
     go_simp
     replace SS := Lib.hid (SS.out.allocE [.int .i64 0,.int .i64 0,.bool false,.slice none 0 0,.slice none 0 0,.bool false,.slice none 0 0,.slice none 0 0,.bool false,.slice none 0 0,.slice none 0 0] 34)
     simp only [List.cons_append, List.nil_append] at SS
     generalize hbk : Array.size (World.heap wc_9) = bkL at SS ⊢
     clear hbk
     generalize hwa : World.alloc _ _ = waL at SS ⊢
     clear hwa
     refine hK.out _ _ (mkS_131 _ _ _ SS.out) (fun hH => ?_)
     clear hK K
     try simp only [pm, s0, sS]
     replace SS := Lib.hid (SS.out.perm (List.Perm.cons _ (List.Perm.cons _ (List.Perm.cons _ (List.Perm.cons _ (List.Perm.cons _ (List.Perm.cons _ (List.Perm.cons _ (List.Perm.cons _ (List.Perm.swap _ _ _))))))))) (List.Perm.refl _))
     clear hH
     revert SS; revert waL; revert bkE; revert bkL; revert A0h n0h c0h A1h n1h c1h A2h n2h c2h A3h n3h c3h A4h n4h c4h A5h n5h c5h A6h n6h c6h A7h n7h c7h; revert A0yb n0yb c0yb A1yb n1yb c1yb A2yb n2yb c2yb A3yb n3yb c3yb A4yb n4yb c4yb A5yb n5yb c5yb; revert A0ya n0ya c0ya A1ya n1ya c1ya A2ya n2ya c2ya A3ya n3ya c3ya A4ya n4ya c4ya A5ya n5ya c5ya
     exact FIN trivial
     exact AllReadyH.nil
     refine AllReadyH.cons (o := ⟨some 17,.alloc 34,0,"exact.go:4569",#[],none⟩) rfl ?_ ?_
     intro K hK
     go_simp
     replace SS := Lib.hid (SS.out.allocE [.int .i64 0,.int .i64 0,.bool false,.slice none 0 0,.slice none 0 0,.bool false,.slice none 0 0,.slice none 0 0,.bool false,.slice none 0 0,.slice none 0 0] 34)
     simp only [List.cons_append, List.nil_append] at SS
     generalize hbk : Array.size (World.heap wc_1) = bkL at SS ⊢
     clear hbk
     generalize hwa : World.alloc _ _ = waL at SS ⊢
     clear hwa
     refine hK.out _ _ (mkS_131 _ _ _ SS.out) (fun hH => ?_)
     clear hK K
     try simp only [pm, s0, sS]
     refine wpAnyH_ready (rs := [4]) (by kernel_rfl) (by simp) ?_
     refine AllReadyH.cons (o := ⟨some 124,.call { callee := .value (.func 8),args := #[.tmp 121,.tmp 123],argTypes := #[34,34] },35,"exact.go:4569",#[⟨1,.data⟩,⟨3,.data⟩,⟨3,.chain⟩],none⟩) rfl ?_ ?_
     intro K hK
     go_simp
     go_at_call 8
     refine (HI.out (.slice A0ya n0ya c0ya) (.slice A1ya n1ya c1ya) (.slice A2ya n2ya c2ya) (.slice A3ya n3ya c3ya) (.slice A4ya n4ya c4ya) (.slice A5ya n5ya c5ya) (.slice A0yb n0yb c0yb) (.slice A1yb n1yb c1yb) (.slice A2yb n2yb c2yb) (.slice A3yb n3yb c3yb) (.slice A4yb n4yb c4yb) (.slice A5yb n5yb c5yb) _ (SS.out.lk 1 rfl) (SS.out.lk 0 rfl)).mono ?_
     rintro e wc_9 ⟨v0_h, v1_h, v2_h, v3_h, v4_h, v5_h, v6_h, v7_h, rfl, ho, hb⟩
     obtain ⟨A0h, n0h, c0h, rfl⟩ := (ho.at_ 0 rfl).shape3
     obtain ⟨A1h, n1h, c1h, rfl⟩ := (ho.at_ 1 rfl).shape3
     obtain ⟨A2h, n2h, c2h, rfl⟩ := (ho.at_ 2 rfl).shape3
     obtain ⟨A3h, n3h, c3h, rfl⟩ := (ho.at_ 3 rfl).shape3
     obtain ⟨A4h, n4h, c4h, rfl⟩ := (ho.at_ 4 rfl).shape3
     obtain ⟨A5h, n5h, c5h, rfl⟩ := (ho.at_ 5 rfl).shape3
     obtain ⟨A6h, n6h, c6h, rfl⟩ := (ho.at_ 6 rfl).shape3
     obtain ⟨A7h, n7h, c7h, rfl⟩ := (ho.at_ 7 rfl).shape3
     replace SS := Lib.hid (SS.out.rows ho hb)
     clear ho hb
     refine hK.out _ _ (mkS_131 _ _ _ SS.out) (fun hH => ?_)
     clear hK K
     try simp only [pm, s0, sS]
     refine tkH 5 ?_ ⟨some 119,.move (.tmp 124),35,"exact.go:4569",#[⟨4,.data⟩],none⟩ ?_ ?_
     rotate_left
     · intro w9 hS; (try dsimp only at hS); go_simp; try with_reducible rfl
     try simp only [pm, s0, sS]
     refine tkH 6 ?_ ⟨some 125,.extract (.tmp 119) 0,34,"exact.go:4569",#[⟨5,.data⟩],none⟩ ?_ ?_
     rotate_left
     · intro w9 hS; (try dsimp only at hS); go_simp; try with_reducible rfl
     try simp only [pm, s0, sS]
     refine tkH 7 ?_ ⟨some 126,.extract (.tmp 119) 1,32,"exact.go:4569",#[⟨5,.data⟩,⟨11,.gcOnly .lateStores⟩],none⟩ ?_ ?_
     rotate_left
     · intro w9 hS; (try dsimp only at hS); go_simp; try with_reducible rfl
     try simp only [pm, s0, sS]
     refine tkH 8 ?_ ⟨some 127,.extract (.tmp 119) 2,4,"exact.go:4569",#[⟨5,.data⟩,⟨12,.gcOnly .lateStores⟩],none⟩ ?_ ?_
     rotate_left
     · intro w9 hS; (try dsimp only at hS); go_simp; try with_reducible rfl
     try simp only [pm, s0, sS]
     replace SS := Lib.hid (SS.out.perm (List.Perm.cons _ (List.Perm.cons _ (List.Perm.cons _ (List.Perm.cons _ (List.Perm.cons _ (List.Perm.cons _ (List.Perm.cons _ (List.Perm.cons _ (List.Perm.swap _ _ _))))))))) (List.Perm.refl _))
     clear hH
     revert SS; revert wc_9; revert bkE; revert bkL; revert A0h n0h c0h A1h n1h c1h A2h n2h c2h A3h n3h c3h A4h n4h c4h A5h n5h c5h A6h n6h c6h A7h n7h c7h; revert A0yb n0yb c0yb A1yb n1yb c1yb A2yb n2yb c2yb A3yb n3yb c3yb A4yb n4yb c4yb A5yb n5yb c5yb; revert A0ya n0ya c0ya A1ya n1ya c1ya A2ya n2ya c2ya A3ya n3ya c3ya A4ya n4ya c4ya A5ya n5ya c5ya
     exact FIN trivial
     exact AllReadyH.nil
     exact AllReadyH.nil
     refine AllReadyH.cons (o := ⟨some 17,.alloc 34,0,"exact.go:4569",#[],none⟩) rfl ?_ ?_
     intro K hK
     go_simp
     replace SS := Lib.hid (SS.out.allocE [.int .i64 0,.int .i64 0,.bool false,.slice none 0 0,.slice none 0 0,.bool false,.slice none 0 0,.slice none 0 0,.bool false,.slice none 0 0,.slice none 0 0] 34)
     simp only [List.cons_append, List.nil_append] at SS
     generalize hbk : Array.size (World.heap wc_0) = bkL at SS ⊢
     clear hbk
     generalize hwa : World.alloc _ _ = waL at SS ⊢
     clear hwa
     refine hK.out _ _ (mkS_131 _ _ _ SS.out) (fun hH => ?_)
     clear hK K
     try simp only [pm, s0, sS]
     refine wpAnyH_ready (rs := [3]) (by kernel_rfl) (by simp) ?_
     refine AllReadyH.cons (o := ⟨some 123,.call { callee := .value (.func 7),args := #[.tmp 122],argTypes := #[28] },34,"exact.go:4569",#[⟨2,.data⟩,⟨1,.chain⟩],none⟩) rfl ?_ ?_
     intro K hK
     go_simp
     go_at_call_of 7 (Value.agg #[Value.int .i64 A1,Value.int .i64 B1,Value.bool P1.s,p10,p11,Value.bool Q1.s,q10,q11,Value.bool R1.s,r10,r11])
     refine (toLink_f A1 B1 P1 Q1 R1 p10 p11 q10 q11 r10 r11 _ (SS.out.lkI HA1.out) HL1.out).mono ?_
     rintro e wc_1 ⟨v0_yb, v1_yb, v2_yb, v3_yb, v4_yb, v5_yb, rfl, ho, hb⟩
     obtain ⟨A0yb, n0yb, c0yb, rfl⟩ := (ho.at_ 0 rfl).shape3
     obtain ⟨A1yb, n1yb, c1yb, rfl⟩ := (ho.at_ 1 rfl).shape3
     obtain ⟨A2yb, n2yb, c2yb, rfl⟩ := (ho.at_ 2 rfl).shape3
     obtain ⟨A3yb, n3yb, c3yb, rfl⟩ := (ho.at_ 3 rfl).shape3
     obtain ⟨A4yb, n4yb, c4yb, rfl⟩ := (ho.at_ 4 rfl).shape3
     obtain ⟨A5yb, n5yb, c5yb, rfl⟩ := (ho.at_ 5 rfl).shape3
     replace SS := Lib.hid (SS.out.rows ho hb)
     clear ho hb
     refine hK.out _ _ (mkS_131 _ _ _ SS.out) (fun hH => ?_)
     clear hK K
     try simp only [pm, s0, sS]
     refine wpAnyH_ready (rs := [4]) (by kernel_rfl) (by simp) ?_
     refine AllReadyH.cons (o := ⟨some 124,.call { callee := .value (.func 8),args := #[.tmp 121,.tmp 123],argTypes := #[34,34] },35,"exact.go:4569",#[⟨1,.data⟩,⟨3,.data⟩,⟨3,.chain⟩],none⟩) rfl ?_ ?_
     intro K hK
     go_simp
     go_at_call 8
     refine (HI.out (.slice A0ya n0ya c0ya) (.slice A1ya n1ya c1ya) (.slice A2ya n2ya c2ya) (.slice A3ya n3ya c3ya) (.slice A4ya n4ya c4ya) (.slice A5ya n5ya c5ya) (.slice A0yb n0yb c0yb) (.slice A1yb n1yb c1yb) (.slice A2yb n2yb c2yb) (.slice A3yb n3yb c3yb) (.slice A4yb n4yb c4yb) (.slice A5yb n5yb c5yb) _ (SS.out.lk 1 rfl) (SS.out.lk 0 rfl)).mono ?_
     rintro e wc_9 ⟨v0_h, v1_h, v2_h, v3_h, v4_h, v5_h, v6_h, v7_h, rfl, ho, hb⟩
     obtain ⟨A0h, n0h, c0h, rfl⟩ := (ho.at_ 0 rfl).shape3
     obtain ⟨A1h, n1h, c1h, rfl⟩ := (ho.at_ 1 rfl).shape3
     obtain ⟨A2h, n2h, c2h, rfl⟩ := (ho.at_ 2 rfl).shape3
     obtain ⟨A3h, n3h, c3h, rfl⟩ := (ho.at_ 3 rfl).shape3
     obtain ⟨A4h, n4h, c4h, rfl⟩ := (ho.at_ 4 rfl).shape3
     obtain ⟨A5h, n5h, c5h, rfl⟩ := (ho.at_ 5 rfl).shape3
     obtain ⟨A6h, n6h, c6h, rfl⟩ := (ho.at_ 6 rfl).shape3
     obtain ⟨A7h, n7h, c7h, rfl⟩ := (ho.at_ 7 rfl).shape3
     replace SS := Lib.hid (SS.out.rows ho hb)
     clear ho hb
     refine hK.out _ _ (mkS_131 _ _ _ SS.out) (fun hH => ?_)
     clear hK K
     try simp only [pm, s0, sS]
     refine tkH 5 ?_ ⟨some 119,.move (.tmp 124),35,"exact.go:4569",#[⟨4,.data⟩],none⟩ ?_ ?_
     rotate_left
     · intro w9 hS; (try dsimp only at hS); go_simp; try with_reducible rfl
     try simp only [pm, s0, sS]
     refine tkH 6 ?_ ⟨some 125,.extract (.tmp 119) 0,34,"exact.go:4569",#[⟨5,.data⟩],none⟩ ?_ ?_
     rotate_left
     · intro w9 hS; (try dsimp only at hS); go_simp; try with_reducible rfl
     try simp only [pm, s0, sS]
     refine tkH 7 ?_ ⟨some 126,.extract (.tmp 119) 1,32,"exact.go:4569",#[⟨5,.data⟩,⟨11,.gcOnly .lateStores⟩],none⟩ ?_ ?_
     rotate_left
     · intro w9 hS; (try dsimp only at hS); go_simp; try with_reducible rfl
     try simp only [pm, s0, sS]
     refine tkH 8 ?_ ⟨some 127,.extract (.tmp 119) 2,4,"exact.go:4569",#[⟨5,.data⟩,⟨12,.gcOnly .lateStores⟩],none⟩ ?_ ?_
     rotate_left
     · intro w9 hS; (try dsimp only at hS); go_simp; try with_reducible rfl
     try simp only [pm, s0, sS]
     replace SS := Lib.hid (SS.out.perm (List.Perm.cons _ (List.Perm.cons _ (List.Perm.cons _ (List.Perm.cons _ (List.Perm.cons _ (List.Perm.cons _ (List.Perm.cons _ (List.Perm.cons _ (List.Perm.swap _ _ _))))))))) (List.Perm.refl _))
     clear hH
     revert SS; revert wc_9; revert bkE; revert bkL; revert A0h n0h c0h A1h n1h c1h A2h n2h c2h A3h n3h c3h A4h n4h c4h A5h n5h c5h A6h n6h c6h A7h n7h c7h; revert A0yb n0yb c0yb A1yb n1yb c1yb A2yb n2yb c2yb A3yb n3yb c3yb A4yb n4yb c4yb A5yb n5yb c5yb; revert A0ya n0ya c0ya A1ya n1ya c1ya A2ya n2ya c2ya A3ya n3ya c3ya A4ya n4ya c4ya A5ya n5ya c5ya
     exact FIN trivial
     exact AllReadyH.nil
     exact AllReadyH.nil
     exact AllReadyH.nil
     refine AllReadyH.cons (o := ⟨some 17,.alloc 34,0,"exact.go:4569",#[],none⟩) rfl ?_ ?_
     intro K hK
     go_simp
     replace SS := Lib.hid (SS.out.allocE [.int .i64 0,.int .i64 0,.bool false,.slice none 0 0,.slice none 0 0,.bool false,.slice none 0 0,.slice none 0 0,.bool false,.slice none 0 0,.slice none 0 0] 34)
     simp only [List.cons_append, List.nil_append] at SS
     generalize hbk : Array.size (World.heap waE) = bkL at SS ⊢
     clear hbk
     generalize hwa : World.alloc _ _ = waL at SS ⊢
     clear hwa
     refine hK.out _ _ (mkS_131 _ _ _ SS.out) (fun hH => ?_)
     clear hK K
     try simp only [pm, s0, sS]
     refine wpAnyH_ready (rs := [1]) (by kernel_rfl) (by simp) ?_
     refine AllReadyH.cons (o := ⟨some 121,.call { callee := .value (.func 7),args := #[.tmp 120],argTypes := #[28] },34,"exact.go:4569",#[⟨0,.data⟩],none⟩) rfl ?_ ?_
     intro K hK
     go_simp
     go_at_call_of 7 (Value.agg #[Value.int .i64 A0,Value.int .i64 B0,Value.bool P0.s,p00,p01,Value.bool Q0.s,q00,q01,Value.bool R0.s,r00,r01])
     refine (toLink_f A0 B0 P0 Q0 R0 p00 p01 q00 q01 r00 r01 _ (SS.out.lkI HA0.out) HL0.out).mono ?_
     rintro e wc_0 ⟨v0_ya, v1_ya, v2_ya, v3_ya, v4_ya, v5_ya, rfl, ho, hb⟩
     obtain ⟨A0ya, n0ya, c0ya, rfl⟩ := (ho.at_ 0 rfl).shape3
     obtain ⟨A1ya, n1ya, c1ya, rfl⟩ := (ho.at_ 1 rfl).shape3
     obtain ⟨A2ya, n2ya, c2ya, rfl⟩ := (ho.at_ 2 rfl).shape3
     obtain ⟨A3ya, n3ya, c3ya, rfl⟩ := (ho.at_ 3 rfl).shape3
     obtain ⟨A4ya, n4ya, c4ya, rfl⟩ := (ho.at_ 4 rfl).shape3
     obtain ⟨A5ya, n5ya, c5ya, rfl⟩ := (ho.at_ 5 rfl).shape3
     replace SS := Lib.hid (SS.out.rows ho hb)
     clear ho hb
     refine hK.out _ _ (mkS_131 _ _ _ SS.out) (fun hH => ?_)
     clear hK K
     try simp only [pm, s0, sS]
     refine wpAnyH_ready (rs := [3]) (by kernel_rfl) (by simp) ?_
     refine AllReadyH.cons (o := ⟨some 123,.call { callee := .value (.func 7),args := #[.tmp 122],argTypes := #[28] },34,"exact.go:4569",#[⟨2,.data⟩,⟨1,.chain⟩],none⟩) rfl ?_ ?_
     intro K hK
     go_simp
     go_at_call_of 7 (Value.agg #[Value.int .i64 A1,Value.int .i64 B1,Value.bool P1.s,p10,p11,Value.bool Q1.s,q10,q11,Value.bool R1.s,r10,r11])
     refine (toLink_f A1 B1 P1 Q1 R1 p10 p11 q10 q11 r10 r11 _ (SS.out.lkI HA1.out) HL1.out).mono ?_
     rintro e wc_1 ⟨v0_yb, v1_yb, v2_yb, v3_yb, v4_yb, v5_yb, rfl, ho, hb⟩
     obtain ⟨A0yb, n0yb, c0yb, rfl⟩ := (ho.at_ 0 rfl).shape3
     obtain ⟨A1yb, n1yb, c1yb, rfl⟩ := (ho.at_ 1 rfl).shape3
     obtain ⟨A2yb, n2yb, c2yb, rfl⟩ := (ho.at_ 2 rfl).shape3
     obtain ⟨A3yb, n3yb, c3yb, rfl⟩ := (ho.at_ 3 rfl).shape3
     obtain ⟨A4yb, n4yb, c4yb, rfl⟩ := (ho.at_ 4 rfl).shape3
     obtain ⟨A5yb, n5yb, c5yb, rfl⟩ := (ho.at_ 5 rfl).shape3
     replace SS := Lib.hid (SS.out.rows ho hb)
     clear ho hb
     refine hK.out _ _ (mkS_131 _ _ _ SS.out) (fun hH => ?_)
     clear hK K
     try simp only [pm, s0, sS]
     refine wpAnyH_ready (rs := [4]) (by kernel_rfl) (by simp) ?_
     refine AllReadyH.cons (o := ⟨some 124,.call { callee := .value (.func 8),args := #[.tmp 121,.tmp 123],argTypes := #[34,34] },35,"exact.go:4569",#[⟨1,.data⟩,⟨3,.data⟩,⟨3,.chain⟩],none⟩) rfl ?_ ?_
     intro K hK
     go_simp
     go_at_call 8
     refine (HI.out (.slice A0ya n0ya c0ya) (.slice A1ya n1ya c1ya) (.slice A2ya n2ya c2ya) (.slice A3ya n3ya c3ya) (.slice A4ya n4ya c4ya) (.slice A5ya n5ya c5ya) (.slice A0yb n0yb c0yb) (.slice A1yb n1yb c1yb) (.slice A2yb n2yb c2yb) (.slice A3yb n3yb c3yb) (.slice A4yb n4yb c4yb) (.slice A5yb n5yb c5yb) _ (SS.out.lk 1 rfl) (SS.out.lk 0 rfl)).mono ?_
     rintro e wc_9 ⟨v0_h, v1_h, v2_h, v3_h, v4_h, v5_h, v6_h, v7_h, rfl, ho, hb⟩
     obtain ⟨A0h, n0h, c0h, rfl⟩ := (ho.at_ 0 rfl).shape3
     obtain ⟨A1h, n1h, c1h, rfl⟩ := (ho.at_ 1 rfl).shape3
     obtain ⟨A2h, n2h, c2h, rfl⟩ := (ho.at_ 2 rfl).shape3
     obtain ⟨A3h, n3h, c3h, rfl⟩ := (ho.at_ 3 rfl).shape3
     obtain ⟨A4h, n4h, c4h, rfl⟩ := (ho.at_ 4 rfl).shape3
     obtain ⟨A5h, n5h, c5h, rfl⟩ := (ho.at_ 5 rfl).shape3
     obtain ⟨A6h, n6h, c6h, rfl⟩ := (ho.at_ 6 rfl).shape3
     obtain ⟨A7h, n7h, c7h, rfl⟩ := (ho.at_ 7 rfl).shape3
     replace SS := Lib.hid (SS.out.rows ho hb)
     clear ho hb
     refine hK.out _ _ (mkS_131 _ _ _ SS.out) (fun hH => ?_)
     clear hK K
     try simp only [pm, s0, sS]
     refine tkH 5 ?_ ⟨some 119,.move (.tmp 124),35,"exact.go:4569",#[⟨4,.data⟩],none⟩ ?_ ?_
     rotate_left
     · intro w9 hS; (try dsimp only at hS); go_simp; try with_reducible rfl
     try simp only [pm, s0, sS]
     refine tkH 6 ?_ ⟨some 125,.extract (.tmp 119) 0,34,"exact.go:4569",#[⟨5,.data⟩],none⟩ ?_ ?_
     rotate_left
     · intro w9 hS; (try dsimp only at hS); go_simp; try with_reducible rfl
     try simp only [pm, s0, sS]
     refine tkH 7 ?_ ⟨some 126,.extract (.tmp 119) 1,32,"exact.go:4569",#[⟨5,.data⟩,⟨11,.gcOnly .lateStores⟩],none⟩ ?_ ?_
     rotate_left
     · intro w9 hS; (try dsimp only at hS); go_simp; try with_reducible rfl
     try simp only [pm, s0, sS]
     refine tkH 8 ?_ ⟨some 127,.extract (.tmp 119) 2,4,"exact.go:4569",#[⟨5,.data⟩,⟨12,.gcOnly .lateStores⟩],none⟩ ?_ ?_
     rotate_left
     · intro w9 hS; (try dsimp only at hS); go_simp; try with_reducible rfl
     try simp only [pm, s0, sS]
     replace SS := Lib.hid (SS.out.perm (List.Perm.cons _ (List.Perm.cons _ (List.Perm.cons _ (List.Perm.cons _ (List.Perm.cons _ (List.Perm.cons _ (List.Perm.cons _ (List.Perm.cons _ (List.Perm.swap _ _ _))))))))) (List.Perm.refl _))
     clear hH
     revert SS; revert wc_9; revert bkE; revert bkL; revert A0h n0h c0h A1h n1h c1h A2h n2h c2h A3h n3h c3h A4h n4h c4h A5h n5h c5h A6h n6h c6h A7h n7h c7h; revert A0yb n0yb c0yb A1yb n1yb c1yb A2yb n2yb c2yb A3yb n3yb c3yb A4yb n4yb c4yb A5yb n5yb c5yb; revert A0ya n0ya c0ya A1ya n1ya c1ya A2ya n2ya c2ya A3ya n3ya c3ya A4ya n4ya c4ya A5ya n5ya c5ya
     exact FIN trivial
     exact AllReadyH.nil
     exact AllReadyH.nil
     exact AllReadyH.nil
     exact AllReadyH.nil
     exact AllReadyH.nil
   as_aux_lemma =>
   intro A0ya n0ya c0ya A1ya n1ya c1ya A2ya n2ya c2ya A3ya n3ya c3ya A4ya n4ya c4ya A5ya n5ya c5ya A0yb n0yb c0yb A1yb n1yb c1yb A2yb n2yb c2yb A3yb n3yb c3yb A4yb n4yb c4yb A5yb n5yb c5yb A0h n0h c0h A1h n1h c1h A2h n2h c2h A3h n3h c3h A4h n4h c4h A5h n5h c5h A6h n6h c6h A7h n7h c7h bkL bkE wq SS
   have hH := mkS_131 _ _ _ SS.out
   refine wpAnyH_ready (rs := [11]) (by kernel_rfl) (by simp) ?_
   refine AllReadyH.cons (o := ⟨none,.store 34 (.tmp 17) (.tmp 125),0,"exact.go:4569",#[⟨9,.data⟩,⟨6,.data⟩,⟨4,.chain⟩,⟨0,.phase⟩,⟨1,.phase⟩,⟨2,.phase⟩,⟨3,.phase⟩,⟨4,.phase⟩,⟨5,.phase⟩,⟨6,.phase⟩,⟨7,.textOnly .lateStores⟩,⟨8,.textOnly .lateStores⟩,⟨9,.phase⟩,⟨10,.phase⟩],none⟩) rfl ?_ ?_
   rotate_left
   exact AllReadyH.nil
   intro K hK
   rw [if_pos (by rfl)]
   refine wp_store_mid _ _ _ rfl _ _ (List.toArray [.int .i64 RA, .int .i64 RB, .bool RP.s, (.slice A0h n0h c0h), (.slice A1h n1h c1h), .bool RQ.s, (.slice A2h n2h c2h), (.slice A3h n3h c3h), .bool RR.s, (.slice A4h n4h c4h), (.slice A5h n5h c5h)]) rfl rfl (SS.out.there_ 8 rfl rfl) (size_link) (all_oneCell_toArray (List.all_eq_true.mp rfl)) ?_
   simp only [Act.put]
   replace SS := Lib.hid (SS.out.setKit 8 [.int .i64 RA,.int .i64 RB,.bool RP.s,(.slice A0h n0h c0h),(.slice A1h n1h c1h),.bool RQ.s,(.slice A2h n2h c2h),(.slice A3h n3h c3h),.bool RR.s,(.slice A4h n4h c4h),(.slice A5h n5h c5h)] rfl rfl)
   simp only [List.set_cons_zero, List.set_cons_succ] at SS
   generalize hwq0 : World.setCells _ _ _ _ = wq0 at SS ⊢
   clear hwq0
   refine hK.out _ _ (mkS_131 _ _ _ SS.out) (fun hH => ?_)
   clear hK K
   try simp only [pm, s0, sS]
   refine wpAnyH_ready (rs := [12]) (by kernel_rfl) (by simp) ?_
   refine AllReadyH.cons (o := ⟨none,.store 32 (.tmp 18) (.tmp 126),0,"exact.go:4569",#[⟨10,.data⟩,⟨7,.data⟩,⟨11,.chain⟩,⟨0,.phase⟩,⟨1,.phase⟩,⟨2,.phase⟩,⟨3,.phase⟩,⟨4,.phase⟩,⟨5,.phase⟩,⟨6,.phase⟩,⟨7,.phase⟩,⟨8,.textOnly .lateStores⟩,⟨9,.phase⟩,⟨10,.phase⟩,⟨11,.phase⟩],none⟩) rfl ?_ ?_
   rotate_left
   exact AllReadyH.nil
   intro K hK
   rw [if_pos (by rfl)]
   refine wp_store_mid _ _ _ rfl _ _ (List.toArray [.bool RE.s, (.slice A6h n6h c6h), (.slice A7h n7h c7h)]) rfl rfl (SS.out.there_ 9 rfl rfl) (size_rat) (all_oneCell_toArray (List.all_eq_true.mp rfl)) ?_
   simp only [Act.put]
   replace SS := Lib.hid (SS.out.setKit 9 [.bool RE.s,(.slice A6h n6h c6h),(.slice A7h n7h c7h)] rfl rfl)
   simp only [List.set_cons_zero, List.set_cons_succ] at SS
   generalize hwq1 : World.setCells _ _ _ _ = wq1 at SS ⊢
   clear hwq1
   refine hK.out _ _ (mkS_131 _ _ _ SS.out) (fun hH => ?_)
   clear hK K
   try simp only [pm, s0, sS]
   refine tkH 13 ?_ ⟨some 19,.assign (.tmp 127),4,"exact.go:4569",#[⟨8,.data⟩,⟨12,.chain⟩,⟨0,.phase⟩,⟨1,.phase⟩,⟨2,.phase⟩,⟨3,.phase⟩,⟨4,.phase⟩,⟨5,.phase⟩,⟨6,.phase⟩,⟨7,.phase⟩,⟨8,.phase⟩,⟨9,.phase⟩,⟨10,.phase⟩,⟨11,.phase⟩,⟨12,.phase⟩],none⟩ ?_ ?_
   rotate_left
   · intro w9 hS; (try dsimp only at hS); go_simp; try with_reducible rfl
   try simp only [pm, s0, sS]
   refine wpAnyH_done (by kernel_rfl) ?_ _
   refine NoPanic.normal ?_
   go_wp2_with fail
   go_meet
   refine ⟨_, _, A0h, n0h, c0h, A1h, n1h, c1h, A2h, n2h, c2h, A3h, n3h, c3h, A4h, n4h, c4h, A5h, n5h, c5h, A6h, n6h, c6h, A7h, n7h, c7h, rfl, rfl, rfl, ?_⟩
   exact ((SS.out.drop 1).drop 1).split
 as_aux_lemma =>
 obtain ⟨b_hL, b_hE, A0h, n0h, c0h, A1h, n1h, c1h, A2h, n2h, c2h, A3h, n3h, c3h, A4h, n4h, c4h, A5h, n5h, c5h, A6h, n6h, c6h, A7h, n7h, c7h, rfl, rfl, rfl, hst⟩ := hcut
 have S_231 := Lib.hid hst
 clear hst S_130
 have hne_gE_hL := S_231.out.ne 0 8 rfl rfl (by decide)
 have hne_gE_hE := S_231.out.ne 0 9 rfl rfl (by decide)
 have hne_gL_hL := S_231.out.ne 1 8 rfl rfl (by decide)
 have hne_gL_hE := S_231.out.ne 1 9 rfl rfl (by decide)
 have hne_x1_hL := S_231.out.ne 2 8 rfl rfl (by decide)
 have hne_x1_hE := S_231.out.ne 2 9 rfl rfl (by decide)
 have hne_x0_hL := S_231.out.ne 3 8 rfl rfl (by decide)
 have hne_x0_hE := S_231.out.ne 3 9 rfl rfl (by decide)
 have hne_arg1_hL := S_231.out.ne 4 8 rfl rfl (by decide)
 have hne_arg1_hE := S_231.out.ne 4 9 rfl rfl (by decide)
 have hne_arg0_hL := S_231.out.ne 5 8 rfl rfl (by decide)
 have hne_arg0_hE := S_231.out.ne 5 9 rfl rfl (by decide)
 have hne_wL_hL := S_231.out.ne 6 8 rfl rfl (by decide)
 have hne_wL_hE := S_231.out.ne 6 9 rfl rfl (by decide)
 have hne_wE_hL := S_231.out.ne 7 8 rfl rfl (by decide)
 have hne_wE_hE := S_231.out.ne 7 9 rfl rfl (by decide)
 have hne_hL_gE := S_231.out.ne 8 0 rfl rfl (by decide)
 have hne_hL_gL := S_231.out.ne 8 1 rfl rfl (by decide)
 have hne_hL_x1 := S_231.out.ne 8 2 rfl rfl (by decide)
 have hne_hL_x0 := S_231.out.ne 8 3 rfl rfl (by decide)
 have hne_hL_arg1 := S_231.out.ne 8 4 rfl rfl (by decide)
 have hne_hL_arg0 := S_231.out.ne 8 5 rfl rfl (by decide)
 have hne_hL_wL := S_231.out.ne 8 6 rfl rfl (by decide)
 have hne_hL_wE := S_231.out.ne 8 7 rfl rfl (by decide)
 have hne_hL_hE := S_231.out.ne 8 9 rfl rfl (by decide)
 have hne_hE_gE := S_231.out.ne 9 0 rfl rfl (by decide)
 have hne_hE_gL := S_231.out.ne 9 1 rfl rfl (by decide)
 have hne_hE_x1 := S_231.out.ne 9 2 rfl rfl (by decide)
 have hne_hE_x0 := S_231.out.ne 9 3 rfl rfl (by decide)
 have hne_hE_arg1 := S_231.out.ne 9 4 rfl rfl (by decide)
 have hne_hE_arg0 := S_231.out.ne 9 5 rfl rfl (by decide)
 have hne_hE_wL := S_231.out.ne 9 6 rfl rfl (by decide)
 have hne_hE_wE := S_231.out.ne 9 7 rfl rfl (by decide)
 have hne_hE_hL := S_231.out.ne 9 8 rfl rfl (by decide)
 obtain ⟨wnh, hwnh⟩ : ∃ u, wc = u := ⟨_, rfl⟩
 rw [hwnh] at S_231 ⊢
 clear hwnh
 have hk_hL_0_231 := S_231.out.cell 8 0 rfl rfl
 have hk_hL_1_231 := S_231.out.cell 8 1 rfl rfl
 have hk_hL_2_231 := S_231.out.cell 8 2 rfl rfl
 have hk_hL_3_231 := S_231.out.cell 8 3 rfl rfl
 have hk_hL_4_231 := S_231.out.cell 8 4 rfl rfl
 have hk_hL_5_231 := S_231.out.cell 8 5 rfl rfl
 have hk_hL_6_231 := S_231.out.cell 8 6 rfl rfl
 have hk_hL_7_231 := S_231.out.cell 8 7 rfl rfl
 have hk_hL_8_231 := S_231.out.cell 8 8 rfl rfl
 have hk_hL_9_231 := S_231.out.cell 8 9 rfl rfl
 have hk_hL_10_231 := S_231.out.cell 8 10 rfl rfl
 have hk_wL_0_231 := S_231.out.cell 6 0 rfl rfl
 have hk_wL_1_231 := S_231.out.cell 6 1 rfl rfl
 have hk_wL_2_231 := S_231.out.cell 6 2 rfl rfl
 have hk_wL_3_231 := S_231.out.cell 6 3 rfl rfl
 have hk_wL_4_231 := S_231.out.cell 6 4 rfl rfl
 have hk_wL_5_231 := S_231.out.cell 6 5 rfl rfl
 have hk_wL_6_231 := S_231.out.cell 6 6 rfl rfl
 have hk_wL_7_231 := S_231.out.cell 6 7 rfl rfl
 have hk_wL_8_231 := S_231.out.cell 6 8 rfl rfl
 have hk_wL_9_231 := S_231.out.cell 6 9 rfl rfl
 have hk_wL_10_231 := S_231.out.cell 6 10 rfl rfl
 have hk_hE_0_231 := S_231.out.cell 9 0 rfl rfl
 have hk_hE_1_231 := S_231.out.cell 9 1 rfl rfl
 have hk_hE_2_231 := S_231.out.cell 9 2 rfl rfl
 have hk_wE_0_231 := S_231.out.cell 7 0 rfl rfl
 have hk_wE_1_231 := S_231.out.cell 7 1 rfl rfl
 have hk_wE_2_231 := S_231.out.cell 7 2 rfl rfl
 as_aux_lemma =>
 go_wp2_with fail
 refine (eqLink_f RA RB RP RQ RR (.slice A0h n0h c0h) (.slice A1h n1h c1h) (.slice A2h n2h c2h) (.slice A3h n3h c3h) (.slice A4h n4h c4h) (.slice A5h n5h c5h) (.slice A0w n0w c0w) (.slice A1w n1w c1w) (.slice A2w n2w c2w) (.slice A3w n3w c3w) (.slice A4w n4w c4w) (.slice A5w n5w c5w) _ (S_231.out.lk 0 rfl).i (S_231.out.lk 4 rfl).i).mono ?_
 rintro e w100 ⟨rfl, hb⟩
 have S_232 := Lib.hid (S_231.out.call hb)
 clear S_231
 clear hb
 clear hk_hL_0_231 hk_hL_1_231 hk_hL_2_231 hk_hL_3_231 hk_hL_4_231 hk_hL_5_231 hk_hL_6_231 hk_hL_7_231 hk_hL_8_231 hk_hL_9_231 hk_hL_10_231 hk_wL_0_231 hk_wL_1_231 hk_wL_2_231 hk_wL_3_231 hk_wL_4_231 hk_wL_5_231 hk_wL_6_231 hk_wL_7_231 hk_wL_8_231 hk_wL_9_231 hk_wL_10_231 hk_hE_0_231 hk_hE_1_231 hk_hE_2_231 hk_wE_0_231 hk_wE_1_231 hk_wE_2_231
 have hk_hL_0_232 := S_232.out.cell 8 0 rfl rfl
 have hk_hL_1_232 := S_232.out.cell 8 1 rfl rfl
 have hk_hL_2_232 := S_232.out.cell 8 2 rfl rfl
 have hk_hL_3_232 := S_232.out.cell 8 3 rfl rfl
 have hk_hL_4_232 := S_232.out.cell 8 4 rfl rfl
 have hk_hL_5_232 := S_232.out.cell 8 5 rfl rfl
 have hk_hL_6_232 := S_232.out.cell 8 6 rfl rfl
 have hk_hL_7_232 := S_232.out.cell 8 7 rfl rfl
 have hk_hL_8_232 := S_232.out.cell 8 8 rfl rfl
 have hk_hL_9_232 := S_232.out.cell 8 9 rfl rfl
 have hk_hL_10_232 := S_232.out.cell 8 10 rfl rfl
 have hk_wL_0_232 := S_232.out.cell 6 0 rfl rfl
 have hk_wL_1_232 := S_232.out.cell 6 1 rfl rfl
 have hk_wL_2_232 := S_232.out.cell 6 2 rfl rfl
 have hk_wL_3_232 := S_232.out.cell 6 3 rfl rfl
 have hk_wL_4_232 := S_232.out.cell 6 4 rfl rfl
 have hk_wL_5_232 := S_232.out.cell 6 5 rfl rfl
 have hk_wL_6_232 := S_232.out.cell 6 6 rfl rfl
 have hk_wL_7_232 := S_232.out.cell 6 7 rfl rfl
 have hk_wL_8_232 := S_232.out.cell 6 8 rfl rfl
 have hk_wL_9_232 := S_232.out.cell 6 9 rfl rfl
 have hk_wL_10_232 := S_232.out.cell 6 10 rfl rfl
 have hk_hE_0_232 := S_232.out.cell 9 0 rfl rfl
 have hk_hE_1_232 := S_232.out.cell 9 1 rfl rfl
 have hk_hE_2_232 := S_232.out.cell 9 2 rfl rfl
 have hk_wE_0_232 := S_232.out.cell 7 0 rfl rfl
 have hk_wE_1_232 := S_232.out.cell 7 1 rfl rfl
 have hk_wE_2_232 := S_232.out.cell 7 2 rfl rfl
 go_wp2_with fail
 refine (eqRat_f RE (.slice A6h n6h c6h) (.slice A7h n7h c7h) _ (.slice A6w n6w c6w) (.slice A7w n7w c7w) (S_232.out.fr 1 0 rfl rfl rfl).i (S_232.out.fr 5 0 rfl rfl rfl).i).mono ?_
 rintro e w101 ⟨rfl, hb⟩
 have S_233 := Lib.hid (S_232.out.call hb)
 clear S_232
 clear hb
 clear hk_hL_0_232 hk_hL_1_232 hk_hL_2_232 hk_hL_3_232 hk_hL_4_232 hk_hL_5_232 hk_hL_6_232 hk_hL_7_232 hk_hL_8_232 hk_hL_9_232 hk_hL_10_232 hk_wL_0_232 hk_wL_1_232 hk_wL_2_232 hk_wL_3_232 hk_wL_4_232 hk_wL_5_232 hk_wL_6_232 hk_wL_7_232 hk_wL_8_232 hk_wL_9_232 hk_wL_10_232 hk_hE_0_232 hk_hE_1_232 hk_hE_2_232 hk_wE_0_232 hk_wE_1_232 hk_wE_2_232
 have hk_gL_0_233 := S_233.out.cell 1 0 rfl rfl
 have hk_gL_1_233 := S_233.out.cell 1 1 rfl rfl
 have hk_gL_2_233 := S_233.out.cell 1 2 rfl rfl
 have hk_gL_3_233 := S_233.out.cell 1 3 rfl rfl
 have hk_gL_4_233 := S_233.out.cell 1 4 rfl rfl
 have hk_gL_5_233 := S_233.out.cell 1 5 rfl rfl
 have hk_gL_6_233 := S_233.out.cell 1 6 rfl rfl
 have hk_gL_7_233 := S_233.out.cell 1 7 rfl rfl
 have hk_gL_8_233 := S_233.out.cell 1 8 rfl rfl
 have hk_gL_9_233 := S_233.out.cell 1 9 rfl rfl
 have hk_gL_10_233 := S_233.out.cell 1 10 rfl rfl
 as_aux_lemma =>
 go_wp2_with fail
 refine (heldLink_f RA RB RP.s RQ.s RR.s (.slice A0g n0g c0g) (.slice A1g n1g c1g) (.slice A2g n2g c2g) (.slice A3g n3g c3g) (.slice A4g n4g c4g) (.slice A5g n5g c5g) (ints RP.xs) (ints RP.ys) (ints RQ.xs) (ints RQ.ys) (ints RR.xs) (ints RR.ys) _ (1) W.heap.size _ (by first | rfl | omega) (S_233.out.own 2 rfl) (by rw [show lenL _ = m0 from Hm0.out]; omega)).mono ?_
 rintro e w102 ⟨rfl, hb⟩
 rw [show lenL _ = m0 from Hm0.out]
 have S_234 := Lib.hid (S_233.out.call hb)
 clear S_233
 clear hb
 clear hk_gL_0_233 hk_gL_1_233 hk_gL_2_233 hk_gL_3_233 hk_gL_4_233 hk_gL_5_233 hk_gL_6_233 hk_gL_7_233 hk_gL_8_233 hk_gL_9_233 hk_gL_10_233
 have hk_gE_0_234 := S_234.out.cell 0 0 rfl rfl
 have hk_gE_1_234 := S_234.out.cell 0 1 rfl rfl
 have hk_gE_2_234 := S_234.out.cell 0 2 rfl rfl
 go_wp2_with fail
 refine (heldRat_f (.slice A6g n6g c6g) (.slice A7g n7g c7g) _ RE.s (ints RE.xs) (ints RE.ys) (1 + m0) W.heap.size _ (by first | rfl | omega) (S_234.out.own 3 rfl) (by rw [show lenL _ = m1 from Hm1.out]; omega)).mono ?_
 rintro e w103 ⟨rfl, hb⟩
 rw [show lenL _ = m1 from Hm1.out]
 have S_235 := Lib.hid (S_234.out.call hb)
 clear S_234
 clear hb
 clear hk_gE_0_234 hk_gE_1_234 hk_gE_2_234
 go_wp2
 go_ret
 exact ⟨rfl, S_235.out.below⟩
set_option maxRecDepth 100000 in
theorem lifted (os : Os) (started : os.Started) (H : Type) (enc : TypeId × Value → H) :
   ReturnsInHanded {} Tryz.checked os 3 .any (Rows.fnExactMergeLinksSpec.pre6 enc Tryz.prog Tryz.f3 Rows.fnExactMergeLinksRow.domain false) (Rows.fnExactMergeLinksSpec.post enc Tryz.prog Tryz.f3 false true false false) := by
 refine returnsInHanded_of_change (C := Tryz.checked) own started (by kernel_rfl) Tryz.func3
   (ChangeSpec.witness6 (enc := enc) (C := Tryz.checked) false ⟨#[], #[.agg #[.int .i64 0, .int .i64 0, .bool false, .slice none 0 0, .slice none 0 0, .bool false, .slice none 0 0, .slice none 0 0, .bool false, .slice none 0 0, .slice none 0 0], .agg #[.int .i64 0, .int .i64 0, .bool false, .slice none 0 0, .slice none 0 0, .bool false, .slice none 0 0, .slice none 0 0, .bool false, .slice none 0 0, .slice none 0 0]], []⟩ 8 (by kernel_rfl) (by kernel_rfl) (by kernel_rfl) (by kernel_rfl)) ?_
 intro W base args ds gs before hval0 hW hcnd _
 have hval : ∀ (j : Nat) t v, Tryz.f3.params[j]? = some t → args[j]? = some v → Value.okWide Tryz.prog W .any base t v := hval0
 have hW' := hW
 obtain ⟨p, q, hA0, hV, rfl, hfz, hnd⟩ := hW
 have hA : DataW.TrodAll enc Tryz.prog W 0 (fun _ => true) true Tryz.f3.params.toList args.toList ds p := hA0
 rw [Tryz.params3] at hA hval
 obtain ⟨v0, vs0, d0, ds0, p0, q0, hargs, rfl, rfl, h0, r0⟩ := trodAll_cons hA
 obtain ⟨v1, vs1, d1, ds1, p1, q1, rfl, rfl, rfl, h1, r1⟩ := trodAll_cons r0
 obtain ⟨rfl, rfl, rfl⟩ := trodAll_nil r1
 obtain rfl : args = #[v0, v1] := by cases args; simp_all
 obtain ⟨rfl, rfl⟩ := trodVars_none hV
 have k0 := h0
 have lt0 : ∀ x ∈ p0, x.block < W.heap.size := by obtain ⟨m, hm⟩ := k0; exact DataW.trod_lt m _ _ _ hm
 obtain ⟨A0, B0, P0, Q0, R0, p00, p01, q00, q01, r00, r01, rfl, w0⟩ := isLink_of linkT (hval 0 28 v0 rfl rfl) h0
 have k1 := h1
 have lt1 : ∀ x ∈ p1, x.block < W.heap.size := by obtain ⟨m, hm⟩ := k1; exact DataW.trod_lt m _ _ _ hm
 obtain ⟨A1, B1, P1, Q1, R1, p10, p11, q10, q11, r10, r11, rfl, w1⟩ := isLink_of linkT (hval 1 28 v1 rfl rfl) h1
 clear hA0 hval0
 refine (walk W A0 B0 P0 Q0 R0 p00 p01 q00 q01 r00 r01 w0 A1 B1 P1 Q1 R1 p10 p11 q10 q11 r10 r11 w1).mono fun e W' ⟨he, bel⟩ => ?_
 subst he
 exact ⟨_, rfl, _, _, _, [], _, [], hW', trodAll_mk1 (shut_bool Tryz.underlying4 _), (trodAll_cons_mk (Below.trod laidOut (by kernel_rfl) (of_decide_eq_true (by kernel_rfl)) k0 bel lt0) (trodAll_cons_mk (Below.trod laidOut (by kernel_rfl) (of_decide_eq_true (by kernel_rfl)) k1 bel lt1) trodAll_mk0)), rfl, bel.frame _, fun h => by cases h⟩
theorem over : Rows.fnExactMergeLinksRow.holds Tryz.pinned (OpenSpec.ofChange Rows.fnExactMergeLinksSpec) :=
 OpenClaim.holds_of_wide 3 Tryz.f3 rfl rfl rfl rfl rfl rfl rfl ⟨rfl, rfl, rfl, rfl, rfl⟩ rfl rfl rfl rfl rfl (by kernel_rfl) Tryz.func3 (by kernel_rfl)
   (of_decide_eq_true (by kernel_rfl)) (by unfold Func.isWrapper; first | (rw [if_pos (by decide +kernel)]; kernel_rfl) | (rw [if_neg (by decide +kernel)]; exact ⟨rfl, rfl⟩))
   (fun os started H enc _ => lifted os started H enc)
theorem proved : Rows.FnExactMergeLinksSaid := over
#print axioms proved
end Go.Proofs.YtnmmgjddaidpaaaGreat.lawMergeLinks
