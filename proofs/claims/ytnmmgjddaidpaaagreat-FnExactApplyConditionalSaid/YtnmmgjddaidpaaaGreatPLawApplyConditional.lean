/- Proved: at every conditional and every slice of points, impl.ApplyConditional answers as its model spec.ApplyConditional in every result, writes into no argument, its answer owns its memory, the call returns true and changes no memory that was there. Conditions: none. -/
import Derived.Test.YtnmmgjddaidpaaaGreatRows
import Derived.Test.YtnmmgjddaidpaaaGreatPB1
import Derived.Test.YtnmmgjddaidpaaaGreatPOpenL
import Derived.Test.YtnmmgjddaidpaaaGreatPCond
import Derived.Test.YtnmmgjddaidpaaaGreatPCondI
import Derived.Test.YtnmmgjddaidpaaaGreatPCondS
import Derived.Test.YtnmmgjddaidpaaaGreatPHand
import Derived.Test.YtnmmgjddaidpaaaGreatPCApply
import Derived.Test.YtnmmgjddaidpaaaGreatPMarkCond
import Derived.Test.YtnmmgjddaidpaaaGreatPMarkPoint
import Derived.Test.YtnmmgjddaidpaaaGreatPCApplyAid
import Derived.WalkKit
import Derived.ProofKit
import Derived.OpenShut
import Derived.ShutString
import Derived.ChangeOld
import Derived.Below
namespace Go.Proofs.YtnmmgjddaidpaaaGreat.lawApplyConditional
open Go.ChangeShapes Go.WideShapes Go.ChangeAt Go.RowKit
open Go.ChangeMaps (open_string shut_string)
set_option linter.unusedVariables false
theorem own : ownKnob Tryz.prog.godebug = none := by kernel_rfl
theorem laidOut : laidOutB Tryz.prog = true := by kernel_rfl
open Nt Fr
set_option maxRecDepth 100000 in
set_option maxHeartbeats 4000000 in
theorem walk (W : World) (N0 : Int) (T0 : Fr) (t00 t01 : Value) (a0 : Option Addr) (len0 cap0 : Nat) (z0 : List Rc) (w0 : FrI W T0 t00 t01 ∧ PaRow W a0 len0 z0 ∧ len0 ≤ cap0 ∧ cap0 ≤ maxLen) (a1 : Option Addr) (len1 cap1 : Nat) (z1 : List Rc) (w1 : RRow 6 0 2 W a1 len1 z1 ∧ len1 ≤ cap1 ∧ cap1 ≤ maxLen) :
   Calls Tryz.prog 4 #[.agg #[.int .i64 N0, .bool T0.s, t00, t01, .slice a0 len0 cap0], .slice a1 len1 cap1] W fun e w' => e = .returned (.bool true) ∧ Below W.heap.size W w' := by
 obtain ⟨ok, hok⟩ : ∃ z, apOk N0 T0 (dats z0) (dats z1) = z := ⟨_, rfl⟩
 obtain ⟨RX, hRX⟩ : ∃ z, apk ok (apSum paX ptX (dats z0) (dats z1)) = z := ⟨_, rfl⟩
 obtain ⟨RY, hRY⟩ : ∃ z, apk ok (apSum paY ptY (dats z0) (dats z1)) = z := ⟨_, rfl⟩
 have hlen : RX.len + RY.len ≤ 1048576 := by
   have g1 : RX.Good := by rw [← hRX]; exact apk_good (apSum_good _ _ _ _)
   have g2 : RY.Good := by rw [← hRY]; exact apk_good (apSum_good _ _ _ _)
   have := g1.len
   have := g2.len
   omega
 have HS := Lib.hid (show ∀ (t0 t1 : Value) (A : Option Addr) (n c : Nat) (ys : List Rc) (D : Option Addr) (m d : Nat) (ps : List Rc) (u : World), dats ys = dats z0 → dats ps = dats z1 → FrA u T0 t0 t1 → PaArg u A n ys → RArg 6 0 2 u D m ps → n ≤ 1048576 → m ≤ 1048576 → Calls Tryz.prog 17 #[.agg #[.int .i64 N0, .bool T0.s, t0, t1, (.slice A n c)], .slice D m d] u (OwnPB RX RY ok u) from fun t0 t1 A n c ys D m d ps u e1 e2 h1 h2 h3 h4 h5 => by
   have h := applyConditional_s N0 T0 t0 t1 A n c ys D m d ps u h1 h2 h3 h4 h5
   unfold OwnAP at h
   rw [e1, e2, hok, hRX, hRY] at h
   exact h)
 have HI := Lib.hid (show ∀ (t0 t1 : Value) (A : Option Addr) (n c : Nat) (ys : List Rc) (D : Option Addr) (m d : Nat) (ps : List Rc) (u : World), dats ys = dats z0 → dats ps = dats z1 → FrA u T0 t0 t1 → PaArg u A n ys → RArg 6 0 2 u D m ps → n ≤ 1048576 → m ≤ 1048576 → Calls Tryz.prog 20 #[.agg #[.int .i64 N0, .bool T0.s, t0, t1, (.slice A n c)], .slice D m d] u (OwnPB RX RY ok u) from fun t0 t1 A n c ys D m d ps u e1 e2 h1 h2 h3 h4 h5 => by
   have h := applyConditional_i N0 T0 t0 t1 A n c ys D m d ps u h1 h2 h3 h4 h5
   unfold OwnAP at h
   rw [e1, e2, hok, hRX, hRY] at h
   exact h)
 clear hok hRX hRY
 obtain ⟨hT, hA, hcap, hcm⟩ := w0
 have hlm0 : len0 ≤ 9223372036854775807 := by unfold maxLen at hcm; omega
 have HT0 := Lib.hid hT
 have HZ0 := Lib.hid hA.len
 have HA0 := Lib.hid hA
 clear hT hA hcap hcm
 obtain ⟨hA, hcap, hcm⟩ := w1
 have hlm1 : len1 ≤ 9223372036854775807 := by unfold maxLen at hcm; omega
 have HZ1 := Lib.hid hA.len
 have HA1 := Lib.hid hA
 clear hA hcap hcm
 have S_1 := Lib.hid (show St W (W.alloc (.cells #[.int .i64 N0, .bool T0.s, t00, t01, (.slice a0 len0 cap0)] 45)) [(W.heap.size, [.int .i64 N0, .bool T0.s, t00, t01, (.slice a0 len0 cap0)])] [] from ((St.start W).alloc_at (b := W.heap.size) [.int .i64 N0, .bool T0.s, t00, t01, (.slice a0 len0 cap0)] 45 (by first | rfl | simp)))
 go_enter Tryz.func4, Tryz.ntmps4
 go_wp2_with fail
 refine (szConditional_f N0 T0 t00 t01 a0 len0 cap0 z0 _ 1048576 (by omega) (by omega) (S_1.out.frI HT0.out) (HA0.out.below S_1.out.below) hlm0).mono ?_
 rintro e w1_ ⟨rfl, hb⟩
 have S_2 := Lib.hid (S_1.out.call hb)
 clear S_1
 clear hb
 by_cases hs0 : (1048576 : Int) < ((T0.len + len0 + lensR z0 : Nat) : Int)
 · rw [szOf_neg hs0]
   go_wp2
   go_ret
   exact ⟨rfl, S_2.out.below⟩
 rw [szOf_pos hs0]
 obtain ⟨left0, hq0⟩ : ∃ q : Int, 1048576 - ((T0.len + len0 + lensR z0 : Nat) : Int) = q := ⟨_, rfl⟩
 have hl0 : 0 ≤ left0 ∧ left0 ≤ 1048576 ∧ T0.len + len0 + lensR z0 ≤ 1048576 := by omega
 rw [hq0]
 have HN0 := Lib.hid hl0.2.2
 have hn0 : len0 ≤ 1048576 := by omega
 clear hq0 hs0
 go_wp2_with fail
 refine (szPointS_any a1 len1 cap1 z1 left0 _ (by omega) (by omega) (HA1.out.below S_2.out.below) hlm1).mono ?_
 rintro e w2_ ⟨rfl, hb⟩
 have S_3 := Lib.hid (S_2.out.call hb)
 clear S_2
 clear hb
 by_cases hs1 : (left0 : Int) < ((len1 + lensR z1 : Nat) : Int)
 · rw [szOf_neg hs1]
   go_wp2
   go_ret
   exact ⟨rfl, S_3.out.below⟩
 rw [szOf_pos hs1]
 obtain ⟨left1, hq1⟩ : ∃ q : Int, left0 - ((len1 + lensR z1 : Nat) : Int) = q := ⟨_, rfl⟩
 have hl1 : 0 ≤ left1 ∧ left1 ≤ 1048576 ∧ len1 + lensR z1 ≤ 1048576 := by omega
 rw [hq1]
 have HN1 := Lib.hid hl1.2.2
 have hn1 : len1 ≤ 1048576 := by omega
 clear hq1 hs1
 have hk_arg0_0_3 := S_3.out.cell 0 0 rfl rfl
 have hk_arg0_1_3 := S_3.out.cell 0 1 rfl rfl
 have hk_arg0_2_3 := S_3.out.cell 0 2 rfl rfl
 have hk_arg0_3_3 := S_3.out.cell 0 3 rfl rfl
 have hk_arg0_4_3 := S_3.out.cell 0 4 rfl rfl
 go_wp2_with fail
 clear hk_arg0_0_3 hk_arg0_1_3 hk_arg0_2_3 hk_arg0_3_3 hk_arg0_4_3
 refine (toConditional_f N0 T0 t00 t01 a0 len0 cap0 z0 _ (S_3.out.frI HT0.out) (HA0.out.below S_3.out.below) HN0.out).mono ?_
 rintro e w3_ ⟨pta, qta, bta, yta, rfl, hd, hsh, hst⟩
 obtain ⟨Ata, nta, cta, rfl⟩ := ((hst.own 1 rfl).at_ 0 rfl).shape3
 obtain ⟨Bta, mta, dta, rfl⟩ := ((hst.own 1 rfl).at_ 1 rfl).shape3
 rw [HZ0.out]
 have HDta := Lib.hid hd
 have HSta := Lib.hid hsh
 have HYta := Lib.hid (show yta.length = len0 by rw [← dats_len, hd, dats_len]; exact HZ0.out)
 have S_4 := Lib.hid (show St W w3_ [(W.heap.size, [.int .i64 N0, .bool T0.s, t00, t01, (.slice a0 len0 cap0)]), (bta, cellsR yta)] [rowsR yta, [((.slice Ata nta cta), ints T0.xs), ((.slice Bta mta dta), ints T0.ys)]] from S_3.out.overE hst)
 clear S_3
 clear hd hsh hst
 go_wp2_with fail
 refine (toPointS_any a1 len1 cap1 z1 _ (HA1.out.below S_4.out.below) HN1.out).mono ?_
 rintro e w4_ ⟨btb, ytb, rfl, hd, hsh, hst⟩
 rw [HZ1.out]
 have HDtb := Lib.hid hd
 have HStb := Lib.hid hsh
 have HYtb := Lib.hid (show ytb.length = len1 by rw [← dats_len, hd, dats_len]; exact HZ1.out)
 have S_5 := Lib.hid (show St W w4_ [(W.heap.size, [.int .i64 N0, .bool T0.s, t00, t01, (.slice a0 len0 cap0)]), (bta, cellsR yta), (btb, cellsR ytb)] [rowsR ytb, rowsR yta, [((.slice Ata nta cta), ints T0.xs), ((.slice Bta mta dta), ints T0.ys)]] from S_4.out.overE hst)
 clear S_4
 clear hd hsh hst
 go_wp2_with fail
 refine (HS.out (.slice Ata nta cta) (.slice Bta mta dta) (some ⟨bta, 0, none⟩) len0 len0 yta (some ⟨btb, 0, none⟩) len1 len1 ytb _ HDta.out HDtb.out (S_5.out.fr 2 0 rfl rfl rfl) (HYta.out ▸ S_5.out.rarg 1 1 HSta.out rfl rfl rfl) (HYtb.out ▸ S_5.out.rarg 2 0 HStb.out rfl rfl rfl) hn0 hn1).mono ?_
 rintro e w5_ ⟨v0_w, v1_w, v2_w, v3_w, rfl, ho, hb⟩
 obtain ⟨A0_w, n0_w, c0_w, rfl⟩ := (ho.at_ 0 rfl).shape3
 obtain ⟨A1_w, n1_w, c1_w, rfl⟩ := (ho.at_ 1 rfl).shape3
 obtain ⟨A2_w, n2_w, c2_w, rfl⟩ := (ho.at_ 2 rfl).shape3
 obtain ⟨A3_w, n3_w, c3_w, rfl⟩ := (ho.at_ 3 rfl).shape3
 have S_6 := Lib.hid (S_5.out.rows ho hb)
 clear S_5
 clear ho hb
 have S_7 := Lib.hid (show St W w5_ [(W.heap.size, [.int .i64 N0, .bool T0.s, t00, t01, (.slice a0 len0 cap0)])] [rowsP RX RY (.slice A0_w n0_w c0_w) (.slice A1_w n1_w c1_w) (.slice A2_w n2_w c2_w) (.slice A3_w n3_w c3_w)] from S_6.out.sub (by repeat (first | exact List.Sublist.refl _ | apply List.Sublist.cons_cons | apply List.Sublist.cons)) (by repeat (first | exact List.Sublist.refl _ | apply List.Sublist.cons_cons | apply List.Sublist.cons)))
 clear S_6
 have S_8 := Lib.hid (S_7.out.alloc [.bool RX.s, (.slice A0_w n0_w c0_w), (.slice A1_w n1_w c1_w), .bool RY.s, (.slice A2_w n2_w c2_w), (.slice A3_w n3_w c3_w)] 50)
 clear S_7
 have hne_arg0_w := S_8.out.ne 1 0 rfl rfl (by decide)
 have hne_w_arg0 := S_8.out.ne 0 1 rfl rfl (by decide)
 have hk_arg0_0_8 := S_8.out.cell 1 0 rfl rfl
 have hk_arg0_1_8 := S_8.out.cell 1 1 rfl rfl
 have hk_arg0_2_8 := S_8.out.cell 1 2 rfl rfl
 have hk_arg0_3_8 := S_8.out.cell 1 3 rfl rfl
 have hk_arg0_4_8 := S_8.out.cell 1 4 rfl rfl
 go_wp2_with fail
 clear hk_arg0_0_8 hk_arg0_1_8 hk_arg0_2_8 hk_arg0_3_8 hk_arg0_4_8
 refine (toConditional_f N0 T0 t00 t01 a0 len0 cap0 z0 _ (S_8.out.frI HT0.out) (HA0.out.below S_8.out.below) HN0.out).mono ?_
 rintro e w6_ ⟨px0, qx0, bx0, yx0, rfl, hd, hsh, hst⟩
 obtain ⟨Ax0, nx0, cx0, rfl⟩ := ((hst.own 1 rfl).at_ 0 rfl).shape3
 obtain ⟨Bx0, mx0, dx0, rfl⟩ := ((hst.own 1 rfl).at_ 1 rfl).shape3
 rw [HZ0.out]
 have HDx0 := Lib.hid hd
 have HSx0 := Lib.hid hsh
 have HYx0 := Lib.hid (show yx0.length = len0 by rw [← dats_len, hd, dats_len]; exact HZ0.out)
 have S_9 := Lib.hid (show St W w6_ [(w5_.heap.size, [.bool RX.s, (.slice A0_w n0_w c0_w), (.slice A1_w n1_w c1_w), .bool RY.s, (.slice A2_w n2_w c2_w), (.slice A3_w n3_w c3_w)]), (W.heap.size, [.int .i64 N0, .bool T0.s, t00, t01, (.slice a0 len0 cap0)]), (bx0, cellsR yx0)] [rowsR yx0, [((.slice Ax0 nx0 cx0), ints T0.xs), ((.slice Bx0 mx0 dx0), ints T0.ys)], rowsP RX RY (.slice A0_w n0_w c0_w) (.slice A1_w n1_w c1_w) (.slice A2_w n2_w c2_w) (.slice A3_w n3_w c3_w)] from S_8.out.overE hst)
 clear S_8
 clear hd hsh hst
 have S_10 := Lib.hid (S_9.out.alloc [.int .i64 N0, .bool T0.s, (.slice Ax0 nx0 cx0), (.slice Bx0 mx0 dx0), (.slice (some ⟨bx0, 0, none⟩) len0 len0)] 55)
 clear S_9
 have hne_w_vx := S_10.out.ne 1 0 rfl rfl (by decide)
 have hne_vx_w := S_10.out.ne 0 1 rfl rfl (by decide)
 have hne_arg0_vx := S_10.out.ne 2 0 rfl rfl (by decide)
 have hne_vx_arg0 := S_10.out.ne 0 2 rfl rfl (by decide)
 have hne_x0_vx := S_10.out.ne 3 0 rfl rfl (by decide)
 have hne_vx_x0 := S_10.out.ne 0 3 rfl rfl (by decide)
 go_wp2_with fail
 refine (toPointS_any a1 len1 cap1 z1 _ (HA1.out.below S_10.out.below) HN1.out).mono ?_
 rintro e w7_ ⟨bx1, yx1, rfl, hd, hsh, hst⟩
 rw [HZ1.out]
 have HDx1 := Lib.hid hd
 have HSx1 := Lib.hid hsh
 have HYx1 := Lib.hid (show yx1.length = len1 by rw [← dats_len, hd, dats_len]; exact HZ1.out)
 have S_11 := Lib.hid (show St W w7_ [(w6_.heap.size, [.int .i64 N0, .bool T0.s, (.slice Ax0 nx0 cx0), (.slice Bx0 mx0 dx0), (.slice (some ⟨bx0, 0, none⟩) len0 len0)]), (w5_.heap.size, [.bool RX.s, (.slice A0_w n0_w c0_w), (.slice A1_w n1_w c1_w), .bool RY.s, (.slice A2_w n2_w c2_w), (.slice A3_w n3_w c3_w)]), (W.heap.size, [.int .i64 N0, .bool T0.s, t00, t01, (.slice a0 len0 cap0)]), (bx0, cellsR yx0), (bx1, cellsR yx1)] [rowsR yx1, rowsR yx0, [((.slice Ax0 nx0 cx0), ints T0.xs), ((.slice Bx0 mx0 dx0), ints T0.ys)], rowsP RX RY (.slice A0_w n0_w c0_w) (.slice A1_w n1_w c1_w) (.slice A2_w n2_w c2_w) (.slice A3_w n3_w c3_w)] from S_10.out.overE hst)
 clear S_10
 clear hd hsh hst
 have hk_vx_0_11 := S_11.out.cell 0 0 rfl rfl
 have hk_vx_1_11 := S_11.out.cell 0 1 rfl rfl
 have hk_vx_2_11 := S_11.out.cell 0 2 rfl rfl
 have hk_vx_3_11 := S_11.out.cell 0 3 rfl rfl
 have hk_vx_4_11 := S_11.out.cell 0 4 rfl rfl
 go_wp2_with fail
 clear hk_vx_0_11 hk_vx_1_11 hk_vx_2_11 hk_vx_3_11 hk_vx_4_11
 refine (HI.out (.slice Ax0 nx0 cx0) (.slice Bx0 mx0 dx0) (some ⟨bx0, 0, none⟩) len0 len0 yx0 (some ⟨bx1, 0, none⟩) len1 len1 yx1 _ HDx0.out HDx1.out (S_11.out.fr 2 0 rfl rfl rfl) (HYx0.out ▸ S_11.out.rarg 3 1 HSx0.out rfl rfl rfl) (HYx1.out ▸ S_11.out.rarg 4 0 HSx1.out rfl rfl rfl) hn0 hn1).mono ?_
 rintro e w8_ ⟨v0_g, v1_g, v2_g, v3_g, rfl, ho, hb⟩
 obtain ⟨A0_g, n0_g, c0_g, rfl⟩ := (ho.at_ 0 rfl).shape3
 obtain ⟨A1_g, n1_g, c1_g, rfl⟩ := (ho.at_ 1 rfl).shape3
 obtain ⟨A2_g, n2_g, c2_g, rfl⟩ := (ho.at_ 2 rfl).shape3
 obtain ⟨A3_g, n3_g, c3_g, rfl⟩ := (ho.at_ 3 rfl).shape3
 have S_12 := Lib.hid (S_11.out.rows ho hb)
 clear S_11
 clear ho hb
 have S_13 := Lib.hid (S_12.out.alloc [.bool RX.s, (.slice A0_g n0_g c0_g), (.slice A1_g n1_g c1_g), .bool RY.s, (.slice A2_g n2_g c2_g), (.slice A3_g n3_g c3_g)] 50)
 clear S_12
 have hne_vx_g := S_13.out.ne 1 0 rfl rfl (by decide)
 have hne_g_vx := S_13.out.ne 0 1 rfl rfl (by decide)
 have hne_w_g := S_13.out.ne 2 0 rfl rfl (by decide)
 have hne_g_w := S_13.out.ne 0 2 rfl rfl (by decide)
 have hne_arg0_g := S_13.out.ne 3 0 rfl rfl (by decide)
 have hne_g_arg0 := S_13.out.ne 0 3 rfl rfl (by decide)
 have hne_x0_g := S_13.out.ne 4 0 rfl rfl (by decide)
 have hne_g_x0 := S_13.out.ne 0 4 rfl rfl (by decide)
 have hne_x1_g := S_13.out.ne 5 0 rfl rfl (by decide)
 have hne_g_x1 := S_13.out.ne 0 5 rfl rfl (by decide)
 have hk_g_0_13 := S_13.out.cell 0 0 rfl rfl
 have hk_g_1_13 := S_13.out.cell 0 1 rfl rfl
 have hk_g_2_13 := S_13.out.cell 0 2 rfl rfl
 have hk_g_3_13 := S_13.out.cell 0 3 rfl rfl
 have hk_g_4_13 := S_13.out.cell 0 4 rfl rfl
 have hk_g_5_13 := S_13.out.cell 0 5 rfl rfl
 have hk_w_0_13 := S_13.out.cell 2 0 rfl rfl
 have hk_w_1_13 := S_13.out.cell 2 1 rfl rfl
 have hk_w_2_13 := S_13.out.cell 2 2 rfl rfl
 have hk_w_3_13 := S_13.out.cell 2 3 rfl rfl
 have hk_w_4_13 := S_13.out.cell 2 4 rfl rfl
 have hk_w_5_13 := S_13.out.cell 2 5 rfl rfl
 go_wp2_with fail
 refine (eqPoint_f RX RY (.slice A0_g n0_g c0_g) (.slice A1_g n1_g c1_g) (.slice A2_g n2_g c2_g) (.slice A3_g n3_g c3_g) (.slice A0_w n0_w c0_w) (.slice A1_w n1_w c1_w) (.slice A2_w n2_w c2_w) (.slice A3_w n3_w c3_w) _ (S_13.out.pt 0 rfl).i (S_13.out.pt 4 rfl).i).mono ?_
 rintro e w9_ ⟨rfl, hb⟩
 have S_14 := Lib.hid (S_13.out.call hb)
 clear S_13
 clear hb
 clear hk_g_0_13 hk_g_1_13 hk_g_2_13 hk_g_3_13 hk_g_4_13 hk_g_5_13 hk_w_0_13 hk_w_1_13 hk_w_2_13 hk_w_3_13 hk_w_4_13 hk_w_5_13
 have hk_vx_0_14 := S_14.out.cell 1 0 rfl rfl
 have hk_vx_1_14 := S_14.out.cell 1 1 rfl rfl
 have hk_vx_2_14 := S_14.out.cell 1 2 rfl rfl
 have hk_vx_3_14 := S_14.out.cell 1 3 rfl rfl
 have hk_vx_4_14 := S_14.out.cell 1 4 rfl rfl
 have hk_arg0_0_14 := S_14.out.cell 3 0 rfl rfl
 have hk_arg0_1_14 := S_14.out.cell 3 1 rfl rfl
 have hk_arg0_2_14 := S_14.out.cell 3 2 rfl rfl
 have hk_arg0_3_14 := S_14.out.cell 3 3 rfl rfl
 have hk_arg0_4_14 := S_14.out.cell 3 4 rfl rfl
 go_wp2
 clear hk_vx_0_14 hk_vx_1_14 hk_vx_2_14 hk_vx_3_14 hk_vx_4_14 hk_arg0_0_14 hk_arg0_1_14 hk_arg0_2_14 hk_arg0_3_14 hk_arg0_4_14
 have mkS_15 : ∀ (w' : World) (bs' : List (Nat × List Value)) (cs' : List Chunk), St W w' ((w8_.heap.size, [.bool RX.s, (.slice A0_g n0_g c0_g), (.slice A1_g n1_g c1_g), .bool RY.s, (.slice A2_g n2_g c2_g), (.slice A3_g n3_g c3_g)]) :: (w6_.heap.size, [.int .i64 N0, .bool T0.s, (.slice Ax0 nx0 cx0), (.slice Bx0 mx0 dx0), (.slice (some ⟨bx0, 0, none⟩) len0 len0)]) :: (w5_.heap.size, [.bool RX.s, (.slice A0_w n0_w c0_w), (.slice A1_w n1_w c1_w), .bool RY.s, (.slice A2_w n2_w c2_w), (.slice A3_w n3_w c3_w)]) :: (W.heap.size, [.int .i64 N0, .bool T0.s, t00, t01, (.slice a0 len0 cap0)]) :: (bx0, cellsR yx0) :: (bx1, cellsR yx1) :: bs') cs' → w'.cell? ⟨w6_.heap.size, 0, none⟩ = some (.int .i64 N0) ∧ w'.cell? ⟨w6_.heap.size, 1, none⟩ = some (.bool T0.s) ∧ w'.cell? ⟨w6_.heap.size, 2, none⟩ = some ((.slice Ax0 nx0 cx0)) ∧ w'.cell? ⟨w6_.heap.size, 3, none⟩ = some ((.slice Bx0 mx0 dx0)) ∧ w'.cell? ⟨w6_.heap.size, 4, none⟩ = some ((.slice (some ⟨bx0, 0, none⟩) len0 len0)) ∧ w'.cell? ⟨W.heap.size, 0, none⟩ = some (.int .i64 N0) ∧ w'.cell? ⟨W.heap.size, 1, none⟩ = some (.bool T0.s) ∧ w'.cell? ⟨W.heap.size, 2, none⟩ = some (t00) ∧ w'.cell? ⟨W.heap.size, 3, none⟩ = some (t01) ∧ w'.cell? ⟨W.heap.size, 4, none⟩ = some ((.slice a0 len0 cap0)) := fun w' bs' cs' h => ⟨h.cell 1 0 rfl rfl, h.cell 1 1 rfl rfl, h.cell 1 2 rfl rfl, h.cell 1 3 rfl rfl, h.cell 1 4 rfl rfl, h.cell 3 0 rfl rfl, h.cell 3 1 rfl rfl, h.cell 3 2 rfl rfl, h.cell 3 3 rfl rfl, h.cell 3 4 rfl rfl⟩
 have SS := Lib.hid S_14.out.drew
 refine wp_region_noPanic ?_
 refine wp_region_held_drew (S := (fun w' => w'.cell? ⟨w6_.heap.size, 0, none⟩ = some (.int .i64 N0) ∧ w'.cell? ⟨w6_.heap.size, 1, none⟩ = some (.bool T0.s) ∧ w'.cell? ⟨w6_.heap.size, 2, none⟩ = some ((.slice Ax0 nx0 cx0)) ∧ w'.cell? ⟨w6_.heap.size, 3, none⟩ = some ((.slice Bx0 mx0 dx0)) ∧ w'.cell? ⟨w6_.heap.size, 4, none⟩ = some ((.slice (some ⟨bx0, 0, none⟩) len0 len0)) ∧ w'.cell? ⟨W.heap.size, 0, none⟩ = some (.int .i64 N0) ∧ w'.cell? ⟨W.heap.size, 1, none⟩ = some (.bool T0.s) ∧ w'.cell? ⟨W.heap.size, 2, none⟩ = some (t00) ∧ w'.cell? ⟨W.heap.size, 3, none⟩ = some (t01) ∧ w'.cell? ⟨W.heap.size, 4, none⟩ = some ((.slice a0 len0 cap0)))) (by kernel_rfl) ?_ (fun hHeld => ?_)
 · exact mkS_15 _ _ _ SS.out
 repeat'
   first
   | (refine tkH 0 ?_ ⟨some 54, .load 55 (.tmp 8), 55, "exact.go:5287", #[], none⟩ ?_ ?_ (hf := by decide +kernel) (hr := by decide +kernel)
      rotate_left
      · intro w9 hSw; (try dsimp only at hSw); go_simp; try with_reducible rfl
      try simp only [pm, s0, sS])
   | (refine tkH 1 ?_ ⟨some 55, .load 45 (.tmp 2), 45, "exact.go:5287", #[], none⟩ ?_ ?_ (hf := by decide +kernel) (hr := by decide +kernel)
      rotate_left
      · intro w9 hSw; (try dsimp only at hSw); go_simp; try with_reducible rfl
      try simp only [pm, s0, sS])
   | (refine tkH 4 ?_ ⟨some 58, .unOp .not 4 (.tmp 57), 4, "exact.go:5287", #[⟨3, .data⟩], none⟩ ?_ ?_ (hf := by decide +kernel) (hr := by decide +kernel)
      rotate_left
      · intro w9 hSw; (try dsimp only at hSw); go_simp; try with_reducible rfl
      try simp only [pm, s0, sS])
   | (refine AllReadyH.cons (o := ⟨some 56, .call { callee := .value (.func 18), args := #[.tmp 55], argTypes := #[45] }, 55, "exact.go:5287", #[⟨1, .data⟩], none⟩) rfl (fun K hK => ?_) ?_
      go_simp
      go_at_call 18
      refine (toConditional_f N0 T0 t00 t01 a0 len0 cap0 z0 _ (SS.out.frI HT0.out) (HA0.out.below SS.out.below) HN0.out).mono ?_
      rintro e w10_ ⟨pu0, qu0, bu0, yu0, rfl, hd, hsh, hst⟩
      obtain ⟨Au0, nu0, cu0, rfl⟩ := ((hst.own 1 rfl).at_ 0 rfl).shape3
      obtain ⟨Bu0, mu0, du0, rfl⟩ := ((hst.own 1 rfl).at_ 1 rfl).shape3
      rw [HZ0.out]
      have HDu0 := Lib.hid hd
      have HSu0 := Lib.hid hsh
      have HYu0 := Lib.hid (show yu0.length = len0 by rw [← dats_len, hd, dats_len]; exact HZ0.out)
      have SX := Lib.hid (SS.out.overE hst)
      simp only [List.cons_append, List.nil_append] at SX
      clear SS hd hsh hst
      have SS := Lib.hid SX.out
      clear SX
      refine hK.out _ _ (mkS_15 _ _ _ SS.out) (fun hHeld => ?_)
      clear hK K
      try simp only [pm, s0, sS])
   | (refine AllReadyH.cons (o := ⟨some 57, .call { callee := .value (.func 22), args := #[.tmp 54, .tmp 56], argTypes := #[55, 55] }, 4, "exact.go:5287", #[⟨0, .data⟩, ⟨2, .data⟩, ⟨2, .chain⟩], none⟩) rfl (fun K hK => ?_) ?_
      go_simp
      go_at_call 22
      refine (eqConditional_f N0 T0 (.slice Ax0 nx0 cx0) (.slice Bx0 mx0 dx0) (.slice Au0 nu0 cu0) (.slice Bu0 mu0 du0) (some ⟨bx0, 0, none⟩) (some ⟨bu0, 0, none⟩) len0 len0 len0 yx0 yu0 _ (SS.out.fr 5 0 rfl rfl rfl).i (SS.out.fr 1 0 rfl rfl rfl).i (HYx0.out ▸ SS.out.rrow 4 4 HSx0.out rfl rfl rfl) (HYu0.out ▸ SS.out.rrow 6 0 HSu0.out rfl rfl rfl) (HDx0.out.trans HDu0.out.symm) hn0).mono ?_
      rintro e w11_ ⟨rfl, hb⟩
      have SX := Lib.hid (SS.out.call hb)
      clear SS hb
      have SS := Lib.hid SX.out
      clear SX
      refine hK.out _ _ (mkS_15 _ _ _ SS.out) (fun hHeld => ?_)
      clear hK K
      try simp only [pm, s0, sS])
   | (refine wpAnyH_ready (rs := [2]) (by decide +kernel) (by simp) ?_)
   | (refine wpAnyH_ready (rs := [3]) (by decide +kernel) (by simp) ?_)
   | (exact AllReadyH.nil)
   | (refine wpAnyH_done (by decide +kernel) ?_ _
      refine NoPanic.normal ?_)
 clear S_14
 have S_16 := Lib.hid (show St W w11_ [(w8_.heap.size, [.bool RX.s, (.slice A0_g n0_g c0_g), (.slice A1_g n1_g c1_g), .bool RY.s, (.slice A2_g n2_g c2_g), (.slice A3_g n3_g c3_g)]), (w6_.heap.size, [.int .i64 N0, .bool T0.s, (.slice Ax0 nx0 cx0), (.slice Bx0 mx0 dx0), (.slice (some ⟨bx0, 0, none⟩) len0 len0)]), (w5_.heap.size, [.bool RX.s, (.slice A0_w n0_w c0_w), (.slice A1_w n1_w c1_w), .bool RY.s, (.slice A2_w n2_w c2_w), (.slice A3_w n3_w c3_w)]), (W.heap.size, [.int .i64 N0, .bool T0.s, t00, t01, (.slice a0 len0 cap0)]), (bx0, cellsR yx0), (bx1, cellsR yx1)] [rowsP RX RY (.slice A0_g n0_g c0_g) (.slice A1_g n1_g c1_g) (.slice A2_g n2_g c2_g) (.slice A3_g n3_g c3_g), rowsR yx1, rowsR yx0, [((.slice Ax0 nx0 cx0), ints T0.xs), ((.slice Bx0 mx0 dx0), ints T0.ys)], rowsP RX RY (.slice A0_w n0_w c0_w) (.slice A1_w n1_w c1_w) (.slice A2_w n2_w c2_w) (.slice A3_w n3_w c3_w)] from SS.out.sub (by repeat (first | exact List.Sublist.refl _ | apply List.Sublist.cons_cons | apply List.Sublist.cons)) (by repeat (first | exact List.Sublist.refl _ | apply List.Sublist.cons_cons | apply List.Sublist.cons)))
 clear SS
 go_wp2_with fail
 refine (toPointS_any a1 len1 cap1 z1 _ (HA1.out.below S_16.out.below) HN1.out).mono ?_
 rintro e w12_ ⟨bu1, yu1, rfl, hd, hsh, hst⟩
 rw [HZ1.out]
 have HDu1 := Lib.hid hd
 have HSu1 := Lib.hid hsh
 have HYu1 := Lib.hid (show yu1.length = len1 by rw [← dats_len, hd, dats_len]; exact HZ1.out)
 have S_17 := Lib.hid (show St W w12_ [(w8_.heap.size, [.bool RX.s, (.slice A0_g n0_g c0_g), (.slice A1_g n1_g c1_g), .bool RY.s, (.slice A2_g n2_g c2_g), (.slice A3_g n3_g c3_g)]), (w6_.heap.size, [.int .i64 N0, .bool T0.s, (.slice Ax0 nx0 cx0), (.slice Bx0 mx0 dx0), (.slice (some ⟨bx0, 0, none⟩) len0 len0)]), (w5_.heap.size, [.bool RX.s, (.slice A0_w n0_w c0_w), (.slice A1_w n1_w c1_w), .bool RY.s, (.slice A2_w n2_w c2_w), (.slice A3_w n3_w c3_w)]), (W.heap.size, [.int .i64 N0, .bool T0.s, t00, t01, (.slice a0 len0 cap0)]), (bx0, cellsR yx0), (bx1, cellsR yx1), (bu1, cellsR yu1)] [rowsR yu1, rowsP RX RY (.slice A0_g n0_g c0_g) (.slice A1_g n1_g c1_g) (.slice A2_g n2_g c2_g) (.slice A3_g n3_g c3_g), rowsR yx1, rowsR yx0, [((.slice Ax0 nx0 cx0), ints T0.xs), ((.slice Bx0 mx0 dx0), ints T0.ys)], rowsP RX RY (.slice A0_w n0_w c0_w) (.slice A1_w n1_w c1_w) (.slice A2_w n2_w c2_w) (.slice A3_w n3_w c3_w)] from S_16.out.overE hst)
 clear S_16
 clear hd hsh hst
 go_wp2_with fail
 refine (eqPointS_same (some ⟨bx1, 0, none⟩) (some ⟨bu1, 0, none⟩) len1 len1 len1 yx1 yu1 _ (HYx1.out ▸ S_17.out.rrow 5 2 HSx1.out rfl rfl rfl) (HYu1.out ▸ S_17.out.rrow 6 0 HSu1.out rfl rfl rfl) (HDx1.out.trans HDu1.out.symm) hn1).mono ?_
 rintro e w13_ ⟨rfl, hb⟩
 have S_18 := Lib.hid (S_17.out.call hb)
 clear S_17
 clear hb
 have S_19 := Lib.hid (show St W w13_ [(w8_.heap.size, [.bool RX.s, (.slice A0_g n0_g c0_g), (.slice A1_g n1_g c1_g), .bool RY.s, (.slice A2_g n2_g c2_g), (.slice A3_g n3_g c3_g)]), (w6_.heap.size, [.int .i64 N0, .bool T0.s, (.slice Ax0 nx0 cx0), (.slice Bx0 mx0 dx0), (.slice (some ⟨bx0, 0, none⟩) len0 len0)]), (w5_.heap.size, [.bool RX.s, (.slice A0_w n0_w c0_w), (.slice A1_w n1_w c1_w), .bool RY.s, (.slice A2_w n2_w c2_w), (.slice A3_w n3_w c3_w)]), (W.heap.size, [.int .i64 N0, .bool T0.s, t00, t01, (.slice a0 len0 cap0)]), (bx0, cellsR yx0), (bx1, cellsR yx1)] [rowsP RX RY (.slice A0_g n0_g c0_g) (.slice A1_g n1_g c1_g) (.slice A2_g n2_g c2_g) (.slice A3_g n3_g c3_g), rowsR yx1, rowsR yx0, [((.slice Ax0 nx0 cx0), ints T0.xs), ((.slice Bx0 mx0 dx0), ints T0.ys)], rowsP RX RY (.slice A0_w n0_w c0_w) (.slice A1_w n1_w c1_w) (.slice A2_w n2_w c2_w) (.slice A3_w n3_w c3_w)] from S_18.out.sub (by repeat (first | exact List.Sublist.refl _ | apply List.Sublist.cons_cons | apply List.Sublist.cons)) (by repeat (first | exact List.Sublist.refl _ | apply List.Sublist.cons_cons | apply List.Sublist.cons)))
 clear S_18
 have hk_vx_0_19 := S_19.out.cell 1 0 rfl rfl
 have hk_vx_1_19 := S_19.out.cell 1 1 rfl rfl
 have hk_vx_2_19 := S_19.out.cell 1 2 rfl rfl
 have hk_vx_3_19 := S_19.out.cell 1 3 rfl rfl
 have hk_vx_4_19 := S_19.out.cell 1 4 rfl rfl
 go_wp2_with fail
 clear hk_vx_0_19 hk_vx_1_19 hk_vx_2_19 hk_vx_3_19 hk_vx_4_19
 have S_20 := Lib.hid (show St W w13_ [(bx0, cellsR yx0), (w8_.heap.size, [.bool RX.s, (.slice A0_g n0_g c0_g), (.slice A1_g n1_g c1_g), .bool RY.s, (.slice A2_g n2_g c2_g), (.slice A3_g n3_g c3_g)]), (w6_.heap.size, [.int .i64 N0, .bool T0.s, (.slice Ax0 nx0 cx0), (.slice Bx0 mx0 dx0), (.slice (some ⟨bx0, 0, none⟩) len0 len0)]), (w5_.heap.size, [.bool RX.s, (.slice A0_w n0_w c0_w), (.slice A1_w n1_w c1_w), .bool RY.s, (.slice A2_w n2_w c2_w), (.slice A3_w n3_w c3_w)]), (W.heap.size, [.int .i64 N0, .bool T0.s, t00, t01, (.slice a0 len0 cap0)]), (bx1, cellsR yx1)] [rowsR yx0, [((.slice Ax0 nx0 cx0), ints T0.xs), ((.slice Bx0 mx0 dx0), ints T0.ys)], rowsP RX RY (.slice A0_g n0_g c0_g) (.slice A1_g n1_g c1_g) (.slice A2_g n2_g c2_g) (.slice A3_g n3_g c3_g), rowsR yx1, rowsP RX RY (.slice A0_w n0_w c0_w) (.slice A1_w n1_w c1_w) (.slice A2_w n2_w c2_w) (.slice A3_w n3_w c3_w)] from (S_19.out.frontC 3 rfl).front 4 3 rfl rfl)
 clear S_19
 have hlx0 : lensR yx0 = lensR z0 := lensR_dats HDx0.out
 refine (markConditional_f N0 T0 (.slice Ax0 nx0 cx0) (.slice Bx0 mx0 dx0) bx0 len0 len0 1 1 (by rfl) yx0 W _ _ _ HYx0.out HSx0.out S_20.out (by rw [hlx0]; have := HN0.out; omega)).mono ?_
 rintro e w14_ ⟨rfl, hst⟩
 rw [hlx0]
 have S_21 := Lib.hid (show St W w14_ [(bx0, cellsR (markRs 4 (1 + T0.len) yx0)), (w8_.heap.size, [.bool RX.s, (.slice A0_g n0_g c0_g), (.slice A1_g n1_g c1_g), .bool RY.s, (.slice A2_g n2_g c2_g), (.slice A3_g n3_g c3_g)]), (w6_.heap.size, [.int .i64 N0, .bool T0.s, (.slice Ax0 nx0 cx0), (.slice Bx0 mx0 dx0), (.slice (some ⟨bx0, 0, none⟩) len0 len0)]), (w5_.heap.size, [.bool RX.s, (.slice A0_w n0_w c0_w), (.slice A1_w n1_w c1_w), .bool RY.s, (.slice A2_w n2_w c2_w), (.slice A3_w n3_w c3_w)]), (W.heap.size, [.int .i64 N0, .bool T0.s, t00, t01, (.slice a0 len0 cap0)]), (bx1, cellsR yx1)] [rowsR (markRs 4 (1 + T0.len) yx0), markL 1 [((.slice Ax0 nx0 cx0), ints T0.xs), ((.slice Bx0 mx0 dx0), ints T0.ys)], rowsP RX RY (.slice A0_g n0_g c0_g) (.slice A1_g n1_g c1_g) (.slice A2_g n2_g c2_g) (.slice A3_g n3_g c3_g), rowsR yx1, rowsP RX RY (.slice A0_w n0_w c0_w) (.slice A1_w n1_w c1_w) (.slice A2_w n2_w c2_w) (.slice A3_w n3_w c3_w)] from hst)
 clear S_20
 clear hst hlx0
 obtain ⟨k1, hk1⟩ : ∃ q : Nat, 1 + T0.len + 4 * len0 + lensR z0 = q := ⟨_, rfl⟩
 have hkb1 : k1 ≤ 4194304 + 1 := by have := HN0.out; omega
 rw [hk1]
 clear hk1
 have S_22 := Lib.hid (show St W w14_ [(w8_.heap.size, [.bool RX.s, (.slice A0_g n0_g c0_g), (.slice A1_g n1_g c1_g), .bool RY.s, (.slice A2_g n2_g c2_g), (.slice A3_g n3_g c3_g)]), (w6_.heap.size, [.int .i64 N0, .bool T0.s, (.slice Ax0 nx0 cx0), (.slice Bx0 mx0 dx0), (.slice (some ⟨bx0, 0, none⟩) len0 len0)]), (w5_.heap.size, [.bool RX.s, (.slice A0_w n0_w c0_w), (.slice A1_w n1_w c1_w), .bool RY.s, (.slice A2_w n2_w c2_w), (.slice A3_w n3_w c3_w)]), (W.heap.size, [.int .i64 N0, .bool T0.s, t00, t01, (.slice a0 len0 cap0)]), (bx1, cellsR yx1)] [rowsP RX RY (.slice A0_g n0_g c0_g) (.slice A1_g n1_g c1_g) (.slice A2_g n2_g c2_g) (.slice A3_g n3_g c3_g), rowsR yx1, rowsP RX RY (.slice A0_w n0_w c0_w) (.slice A1_w n1_w c1_w) (.slice A2_w n2_w c2_w) (.slice A3_w n3_w c3_w)] from S_21.out.sub (by repeat (first | exact List.Sublist.refl _ | apply List.Sublist.cons_cons | apply List.Sublist.cons)) (by repeat (first | exact List.Sublist.refl _ | apply List.Sublist.cons_cons | apply List.Sublist.cons)))
 clear S_21
 go_wp2_with fail
 have S_23 := Lib.hid (show St W w14_ [(bx1, cellsR yx1), (w8_.heap.size, [.bool RX.s, (.slice A0_g n0_g c0_g), (.slice A1_g n1_g c1_g), .bool RY.s, (.slice A2_g n2_g c2_g), (.slice A3_g n3_g c3_g)]), (w6_.heap.size, [.int .i64 N0, .bool T0.s, (.slice Ax0 nx0 cx0), (.slice Bx0 mx0 dx0), (.slice (some ⟨bx0, 0, none⟩) len0 len0)]), (w5_.heap.size, [.bool RX.s, (.slice A0_w n0_w c0_w), (.slice A1_w n1_w c1_w), .bool RY.s, (.slice A2_w n2_w c2_w), (.slice A3_w n3_w c3_w)]), (W.heap.size, [.int .i64 N0, .bool T0.s, t00, t01, (.slice a0 len0 cap0)])] [rowsR yx1, rowsP RX RY (.slice A0_g n0_g c0_g) (.slice A1_g n1_g c1_g) (.slice A2_g n2_g c2_g) (.slice A3_g n3_g c3_g), rowsP RX RY (.slice A0_w n0_w c0_w) (.slice A1_w n1_w c1_w) (.slice A2_w n2_w c2_w) (.slice A3_w n3_w c3_w)] from S_22.out.front 4 1 rfl rfl)
 clear S_22
 have hlx1 : lensR yx1 = lensR z1 := lensR_dats HDx1.out
 refine (markPointS_f bx1 len1 len1 k1 _ (by rfl) yx1 W _ _ _ HYx1.out HSx1.out S_23.out (by rw [hlx1]; have := HN1.out; omega)).mono ?_
 rintro e w15_ ⟨rfl, hst⟩
 rw [hlx1]
 have S_24 := Lib.hid (show St W w15_ [(bx1, cellsR (markRs 2 k1 yx1)), (w8_.heap.size, [.bool RX.s, (.slice A0_g n0_g c0_g), (.slice A1_g n1_g c1_g), .bool RY.s, (.slice A2_g n2_g c2_g), (.slice A3_g n3_g c3_g)]), (w6_.heap.size, [.int .i64 N0, .bool T0.s, (.slice Ax0 nx0 cx0), (.slice Bx0 mx0 dx0), (.slice (some ⟨bx0, 0, none⟩) len0 len0)]), (w5_.heap.size, [.bool RX.s, (.slice A0_w n0_w c0_w), (.slice A1_w n1_w c1_w), .bool RY.s, (.slice A2_w n2_w c2_w), (.slice A3_w n3_w c3_w)]), (W.heap.size, [.int .i64 N0, .bool T0.s, t00, t01, (.slice a0 len0 cap0)])] [rowsR (markRs 2 k1 yx1), rowsP RX RY (.slice A0_g n0_g c0_g) (.slice A1_g n1_g c1_g) (.slice A2_g n2_g c2_g) (.slice A3_g n3_g c3_g), rowsP RX RY (.slice A0_w n0_w c0_w) (.slice A1_w n1_w c1_w) (.slice A2_w n2_w c2_w) (.slice A3_w n3_w c3_w)] from hst)
 clear S_23
 clear hst hlx1
 obtain ⟨k2, hk2⟩ : ∃ q : Nat, k1 + 2 * len1 + lensR z1 = q := ⟨_, rfl⟩
 have hkb2 : k2 ≤ 1073741824 := by have := HN1.out; omega
 rw [hk2]
 clear hk2
 have S_25 := Lib.hid (show St W w15_ [(w8_.heap.size, [.bool RX.s, (.slice A0_g n0_g c0_g), (.slice A1_g n1_g c1_g), .bool RY.s, (.slice A2_g n2_g c2_g), (.slice A3_g n3_g c3_g)]), (w6_.heap.size, [.int .i64 N0, .bool T0.s, (.slice Ax0 nx0 cx0), (.slice Bx0 mx0 dx0), (.slice (some ⟨bx0, 0, none⟩) len0 len0)]), (w5_.heap.size, [.bool RX.s, (.slice A0_w n0_w c0_w), (.slice A1_w n1_w c1_w), .bool RY.s, (.slice A2_w n2_w c2_w), (.slice A3_w n3_w c3_w)]), (W.heap.size, [.int .i64 N0, .bool T0.s, t00, t01, (.slice a0 len0 cap0)])] [rowsP RX RY (.slice A0_g n0_g c0_g) (.slice A1_g n1_g c1_g) (.slice A2_g n2_g c2_g) (.slice A3_g n3_g c3_g), rowsP RX RY (.slice A0_w n0_w c0_w) (.slice A1_w n1_w c1_w) (.slice A2_w n2_w c2_w) (.slice A3_w n3_w c3_w)] from S_24.out.sub (by repeat (first | exact List.Sublist.refl _ | apply List.Sublist.cons_cons | apply List.Sublist.cons)) (by repeat (first | exact List.Sublist.refl _ | apply List.Sublist.cons_cons | apply List.Sublist.cons)))
 clear S_24
 have hk20 : decide ((k2 : Int) < 0) = false := decide_eq_false (by omega)
 have hk_g_0_25 := S_25.out.cell 0 0 rfl rfl
 have hk_g_1_25 := S_25.out.cell 0 1 rfl rfl
 have hk_g_2_25 := S_25.out.cell 0 2 rfl rfl
 have hk_g_3_25 := S_25.out.cell 0 3 rfl rfl
 have hk_g_4_25 := S_25.out.cell 0 4 rfl rfl
 have hk_g_5_25 := S_25.out.cell 0 5 rfl rfl
 have hk_w_0_25 := S_25.out.cell 2 0 rfl rfl
 have hk_w_1_25 := S_25.out.cell 2 1 rfl rfl
 have hk_w_2_25 := S_25.out.cell 2 2 rfl rfl
 have hk_w_3_25 := S_25.out.cell 2 3 rfl rfl
 have hk_w_4_25 := S_25.out.cell 2 4 rfl rfl
 have hk_w_5_25 := S_25.out.cell 2 5 rfl rfl
 go_wp2_with fail
 refine (eqPoint_f RX RY (.slice A0_g n0_g c0_g) (.slice A1_g n1_g c1_g) (.slice A2_g n2_g c2_g) (.slice A3_g n3_g c3_g) (.slice A0_w n0_w c0_w) (.slice A1_w n1_w c1_w) (.slice A2_w n2_w c2_w) (.slice A3_w n3_w c3_w) _ (S_25.out.pt 0 rfl).i (S_25.out.pt 1 rfl).i).mono ?_
 rintro e w16_ ⟨rfl, hb⟩
 have S_26 := Lib.hid (S_25.out.call hb)
 clear S_25
 clear hb
 clear hk_g_0_25 hk_g_1_25 hk_g_2_25 hk_g_3_25 hk_g_4_25 hk_g_5_25 hk_w_0_25 hk_w_1_25 hk_w_2_25 hk_w_3_25 hk_w_4_25 hk_w_5_25
 have hk_g_0_26 := S_26.out.cell 0 0 rfl rfl
 have hk_g_1_26 := S_26.out.cell 0 1 rfl rfl
 have hk_g_2_26 := S_26.out.cell 0 2 rfl rfl
 have hk_g_3_26 := S_26.out.cell 0 3 rfl rfl
 have hk_g_4_26 := S_26.out.cell 0 4 rfl rfl
 have hk_g_5_26 := S_26.out.cell 0 5 rfl rfl
 go_wp2_with fail
 obtain ⟨m0, hm0⟩ : ∃ z, lenL [((.slice A0_g n0_g c0_g), ints RX.xs), ((.slice A1_g n1_g c1_g), ints RX.ys), ((.slice A2_g n2_g c2_g), ints RY.xs), ((.slice A3_g n3_g c3_g), ints RY.ys)] = z := ⟨_, rfl⟩
 have hbm0 : m0 ≤ 2097152 := by rw [← hm0]; simp only [lenL, ints_len]; have h9 := hlen; simp only [Fr.len] at h9; omega
 have Hm0 := Lib.hid hm0
 clear hm0
 refine (markPoint_f RX.s RY.s (.slice A0_g n0_g c0_g) (.slice A1_g n1_g c1_g) (.slice A2_g n2_g c2_g) (.slice A3_g n3_g c3_g) (ints RX.xs) (ints RX.ys) (ints RY.xs) (ints RY.ys) _ (1) W.heap.size _ (by first | rfl | omega) (S_26.out.own 0 rfl) (by rw [show lenL _ = m0 from Hm0.out]; omega)).mono ?_
 rintro e w17_ ⟨rfl, ho, ht⟩
 rw [show lenL _ = m0 from Hm0.out]
 have S_27 := Lib.hid (S_26.out.marked 0 rfl ho ht)
 clear S_26
 clear ho ht
 clear hk_g_0_26 hk_g_1_26 hk_g_2_26 hk_g_3_26 hk_g_4_26 hk_g_5_26
 have hk_g_0_27 := S_27.out.cell 0 0 rfl rfl
 have hk_g_1_27 := S_27.out.cell 0 1 rfl rfl
 have hk_g_2_27 := S_27.out.cell 0 2 rfl rfl
 have hk_g_3_27 := S_27.out.cell 0 3 rfl rfl
 have hk_g_4_27 := S_27.out.cell 0 4 rfl rfl
 have hk_g_5_27 := S_27.out.cell 0 5 rfl rfl
 go_wp2_with fail
 refine (heldPoint_f RX.s RY.s (.slice A0_g n0_g c0_g) (.slice A1_g n1_g c1_g) (.slice A2_g n2_g c2_g) (.slice A3_g n3_g c3_g) (ints RX.xs) (ints RX.ys) (ints RY.xs) (ints RY.ys) _ (1) W.heap.size _ (by first | rfl | omega) (S_27.out.own 0 rfl) (by rw [show lenL _ = m0 from Hm0.out]; omega)).mono ?_
 rintro e w18_ ⟨rfl, hb⟩
 rw [show lenL _ = m0 from Hm0.out]
 have S_28 := Lib.hid (S_27.out.call hb)
 clear S_27
 clear hb
 clear hk_g_0_27 hk_g_1_27 hk_g_2_27 hk_g_3_27 hk_g_4_27 hk_g_5_27
 have hk_arg0_0_28 := S_28.out.cell 3 0 rfl rfl
 have hk_arg0_1_28 := S_28.out.cell 3 1 rfl rfl
 have hk_arg0_2_28 := S_28.out.cell 3 2 rfl rfl
 have hk_arg0_3_28 := S_28.out.cell 3 3 rfl rfl
 have hk_arg0_4_28 := S_28.out.cell 3 4 rfl rfl
 go_wp2_with fail
 clear hk_arg0_0_28 hk_arg0_1_28 hk_arg0_2_28 hk_arg0_3_28 hk_arg0_4_28
 refine (toConditional_f N0 T0 t00 t01 a0 len0 cap0 z0 _ (S_28.out.frI HT0.out) (HA0.out.below S_28.out.below) HN0.out).mono ?_
 rintro e w19_ ⟨pya, qya, bya, yya, rfl, hd, hsh, hst⟩
 obtain ⟨Aya, nya, cya, rfl⟩ := ((hst.own 1 rfl).at_ 0 rfl).shape3
 obtain ⟨Bya, mya, dya, rfl⟩ := ((hst.own 1 rfl).at_ 1 rfl).shape3
 rw [HZ0.out]
 have HDya := Lib.hid hd
 have HSya := Lib.hid hsh
 have HYya := Lib.hid (show yya.length = len0 by rw [← dats_len, hd, dats_len]; exact HZ0.out)
 have S_29 := Lib.hid (show St W w19_ [(w8_.heap.size, [.bool RX.s, (.slice A0_g n0_g c0_g), (.slice A1_g n1_g c1_g), .bool RY.s, (.slice A2_g n2_g c2_g), (.slice A3_g n3_g c3_g)]), (w6_.heap.size, [.int .i64 N0, .bool T0.s, (.slice Ax0 nx0 cx0), (.slice Bx0 mx0 dx0), (.slice (some ⟨bx0, 0, none⟩) len0 len0)]), (w5_.heap.size, [.bool RX.s, (.slice A0_w n0_w c0_w), (.slice A1_w n1_w c1_w), .bool RY.s, (.slice A2_w n2_w c2_w), (.slice A3_w n3_w c3_w)]), (W.heap.size, [.int .i64 N0, .bool T0.s, t00, t01, (.slice a0 len0 cap0)]), (bya, cellsR yya)] [rowsR yya, [((.slice Aya nya cya), ints T0.xs), ((.slice Bya mya dya), ints T0.ys)], markL (1) [((.slice A0_g n0_g c0_g), ints RX.xs), ((.slice A1_g n1_g c1_g), ints RX.ys), ((.slice A2_g n2_g c2_g), ints RY.xs), ((.slice A3_g n3_g c3_g), ints RY.ys)], rowsP RX RY (.slice A0_w n0_w c0_w) (.slice A1_w n1_w c1_w) (.slice A2_w n2_w c2_w) (.slice A3_w n3_w c3_w)] from S_28.out.overE hst)
 clear S_28
 clear hd hsh hst
 go_wp2_with fail
 refine (toPointS_any a1 len1 cap1 z1 _ (HA1.out.below S_29.out.below) HN1.out).mono ?_
 rintro e w20_ ⟨byb, yyb, rfl, hd, hsh, hst⟩
 rw [HZ1.out]
 have HDyb := Lib.hid hd
 have HSyb := Lib.hid hsh
 have HYyb := Lib.hid (show yyb.length = len1 by rw [← dats_len, hd, dats_len]; exact HZ1.out)
 have S_30 := Lib.hid (show St W w20_ [(w8_.heap.size, [.bool RX.s, (.slice A0_g n0_g c0_g), (.slice A1_g n1_g c1_g), .bool RY.s, (.slice A2_g n2_g c2_g), (.slice A3_g n3_g c3_g)]), (w6_.heap.size, [.int .i64 N0, .bool T0.s, (.slice Ax0 nx0 cx0), (.slice Bx0 mx0 dx0), (.slice (some ⟨bx0, 0, none⟩) len0 len0)]), (w5_.heap.size, [.bool RX.s, (.slice A0_w n0_w c0_w), (.slice A1_w n1_w c1_w), .bool RY.s, (.slice A2_w n2_w c2_w), (.slice A3_w n3_w c3_w)]), (W.heap.size, [.int .i64 N0, .bool T0.s, t00, t01, (.slice a0 len0 cap0)]), (bya, cellsR yya), (byb, cellsR yyb)] [rowsR yyb, rowsR yya, [((.slice Aya nya cya), ints T0.xs), ((.slice Bya mya dya), ints T0.ys)], markL (1) [((.slice A0_g n0_g c0_g), ints RX.xs), ((.slice A1_g n1_g c1_g), ints RX.ys), ((.slice A2_g n2_g c2_g), ints RY.xs), ((.slice A3_g n3_g c3_g), ints RY.ys)], rowsP RX RY (.slice A0_w n0_w c0_w) (.slice A1_w n1_w c1_w) (.slice A2_w n2_w c2_w) (.slice A3_w n3_w c3_w)] from S_29.out.overE hst)
 clear S_29
 clear hd hsh hst
 go_wp2_with fail
 refine (HI.out (.slice Aya nya cya) (.slice Bya mya dya) (some ⟨bya, 0, none⟩) len0 len0 yya (some ⟨byb, 0, none⟩) len1 len1 yyb _ HDya.out HDyb.out (S_30.out.fr 2 0 rfl rfl rfl) (HYya.out ▸ S_30.out.rarg 4 1 HSya.out rfl rfl rfl) (HYyb.out ▸ S_30.out.rarg 5 0 HSyb.out rfl rfl rfl) hn0 hn1).mono ?_
 rintro e w21_ ⟨v0_h, v1_h, v2_h, v3_h, rfl, ho, hb⟩
 obtain ⟨A0_h, n0_h, c0_h, rfl⟩ := (ho.at_ 0 rfl).shape3
 obtain ⟨A1_h, n1_h, c1_h, rfl⟩ := (ho.at_ 1 rfl).shape3
 obtain ⟨A2_h, n2_h, c2_h, rfl⟩ := (ho.at_ 2 rfl).shape3
 obtain ⟨A3_h, n3_h, c3_h, rfl⟩ := (ho.at_ 3 rfl).shape3
 have S_31 := Lib.hid (S_30.out.rows ho hb)
 clear S_30
 clear ho hb
 have S_32 := Lib.hid (show St W w21_ [(w8_.heap.size, [.bool RX.s, (.slice A0_g n0_g c0_g), (.slice A1_g n1_g c1_g), .bool RY.s, (.slice A2_g n2_g c2_g), (.slice A3_g n3_g c3_g)]), (w6_.heap.size, [.int .i64 N0, .bool T0.s, (.slice Ax0 nx0 cx0), (.slice Bx0 mx0 dx0), (.slice (some ⟨bx0, 0, none⟩) len0 len0)]), (w5_.heap.size, [.bool RX.s, (.slice A0_w n0_w c0_w), (.slice A1_w n1_w c1_w), .bool RY.s, (.slice A2_w n2_w c2_w), (.slice A3_w n3_w c3_w)]), (W.heap.size, [.int .i64 N0, .bool T0.s, t00, t01, (.slice a0 len0 cap0)])] [rowsP RX RY (.slice A0_h n0_h c0_h) (.slice A1_h n1_h c1_h) (.slice A2_h n2_h c2_h) (.slice A3_h n3_h c3_h), markL (1) [((.slice A0_g n0_g c0_g), ints RX.xs), ((.slice A1_g n1_g c1_g), ints RX.ys), ((.slice A2_g n2_g c2_g), ints RY.xs), ((.slice A3_g n3_g c3_g), ints RY.ys)], rowsP RX RY (.slice A0_w n0_w c0_w) (.slice A1_w n1_w c1_w) (.slice A2_w n2_w c2_w) (.slice A3_w n3_w c3_w)] from S_31.out.sub (by repeat (first | exact List.Sublist.refl _ | apply List.Sublist.cons_cons | apply List.Sublist.cons)) (by repeat (first | exact List.Sublist.refl _ | apply List.Sublist.cons_cons | apply List.Sublist.cons)))
 clear S_31
 have S_33 := Lib.hid (S_32.out.alloc [.bool RX.s, (.slice A0_h n0_h c0_h), (.slice A1_h n1_h c1_h), .bool RY.s, (.slice A2_h n2_h c2_h), (.slice A3_h n3_h c3_h)] 50)
 clear S_32
 have hne_g_h := S_33.out.ne 1 0 rfl rfl (by decide)
 have hne_h_g := S_33.out.ne 0 1 rfl rfl (by decide)
 have hne_vx_h := S_33.out.ne 2 0 rfl rfl (by decide)
 have hne_h_vx := S_33.out.ne 0 2 rfl rfl (by decide)
 have hne_w_h := S_33.out.ne 3 0 rfl rfl (by decide)
 have hne_h_w := S_33.out.ne 0 3 rfl rfl (by decide)
 have hne_arg0_h := S_33.out.ne 4 0 rfl rfl (by decide)
 have hne_h_arg0 := S_33.out.ne 0 4 rfl rfl (by decide)
 have hk_h_0_33 := S_33.out.cell 0 0 rfl rfl
 have hk_h_1_33 := S_33.out.cell 0 1 rfl rfl
 have hk_h_2_33 := S_33.out.cell 0 2 rfl rfl
 have hk_h_3_33 := S_33.out.cell 0 3 rfl rfl
 have hk_h_4_33 := S_33.out.cell 0 4 rfl rfl
 have hk_h_5_33 := S_33.out.cell 0 5 rfl rfl
 have hk_w_0_33 := S_33.out.cell 3 0 rfl rfl
 have hk_w_1_33 := S_33.out.cell 3 1 rfl rfl
 have hk_w_2_33 := S_33.out.cell 3 2 rfl rfl
 have hk_w_3_33 := S_33.out.cell 3 3 rfl rfl
 have hk_w_4_33 := S_33.out.cell 3 4 rfl rfl
 have hk_w_5_33 := S_33.out.cell 3 5 rfl rfl
 go_wp2_with fail
 refine (eqPoint_f RX RY (.slice A0_h n0_h c0_h) (.slice A1_h n1_h c1_h) (.slice A2_h n2_h c2_h) (.slice A3_h n3_h c3_h) (.slice A0_w n0_w c0_w) (.slice A1_w n1_w c1_w) (.slice A2_w n2_w c2_w) (.slice A3_w n3_w c3_w) _ (S_33.out.pt 0 rfl).i (S_33.out.pt 2 rfl).i).mono ?_
 rintro e w22_ ⟨rfl, hb⟩
 have S_34 := Lib.hid (S_33.out.call hb)
 clear S_33
 clear hb
 clear hk_h_0_33 hk_h_1_33 hk_h_2_33 hk_h_3_33 hk_h_4_33 hk_h_5_33 hk_w_0_33 hk_w_1_33 hk_w_2_33 hk_w_3_33 hk_w_4_33 hk_w_5_33
 have hk_g_0_34 := S_34.out.cell 1 0 rfl rfl
 have hk_g_1_34 := S_34.out.cell 1 1 rfl rfl
 have hk_g_2_34 := S_34.out.cell 1 2 rfl rfl
 have hk_g_3_34 := S_34.out.cell 1 3 rfl rfl
 have hk_g_4_34 := S_34.out.cell 1 4 rfl rfl
 have hk_g_5_34 := S_34.out.cell 1 5 rfl rfl
 go_wp2_with fail
 refine (heldPoint_f RX.s RY.s (.slice A0_g n0_g c0_g) (.slice A1_g n1_g c1_g) (.slice A2_g n2_g c2_g) (.slice A3_g n3_g c3_g) (ints RX.xs) (ints RX.ys) (ints RY.xs) (ints RY.ys) _ (1) W.heap.size _ (by first | rfl | omega) (S_34.out.own 1 rfl) (by rw [show lenL _ = m0 from Hm0.out]; omega)).mono ?_
 rintro e w23_ ⟨rfl, hb⟩
 rw [show lenL _ = m0 from Hm0.out]
 have S_35 := Lib.hid (S_34.out.call hb)
 clear S_34
 clear hb
 clear hk_g_0_34 hk_g_1_34 hk_g_2_34 hk_g_3_34 hk_g_4_34 hk_g_5_34
 go_wp2
 go_ret
 exact ⟨rfl, S_35.out.below⟩
set_option maxRecDepth 100000 in
theorem lifted (os : Os) (started : os.Started) (H : Type) (enc : TypeId × Value → H) :
   ReturnsInHanded {} Tryz.checked os 4 .any (Rows.fnExactApplyConditionalSpec.pre6 enc Tryz.prog Tryz.f4 Rows.fnExactApplyConditionalRow.domain false) (Rows.fnExactApplyConditionalSpec.post enc Tryz.prog Tryz.f4 false true false false) := by
 refine returnsInHanded_of_change (C := Tryz.checked) own started (by kernel_rfl) Tryz.func4
   (ChangeSpec.witness6 (enc := enc) (C := Tryz.checked) false ⟨#[], #[.agg #[.int .i64 0, .bool false, .slice none 0 0, .slice none 0 0, .slice none 0 0], .slice none 0 0], []⟩ 8 (by kernel_rfl) (by kernel_rfl) (by kernel_rfl) (by kernel_rfl)) ?_
 intro W base args ds gs before hval0 hW hcnd _
 have hval : ∀ (j : Nat) t v, Tryz.f4.params[j]? = some t → args[j]? = some v → Value.okWide Tryz.prog W .any base t v := hval0
 have hW' := hW
 obtain ⟨p, q, hA0, hV, rfl, hfz, hnd⟩ := hW
 have hA : DataW.TrodAll enc Tryz.prog W 0 (fun _ => true) true Tryz.f4.params.toList args.toList ds p := hA0
 rw [Tryz.params4] at hA hval
 obtain ⟨v0, vs0, d0, ds0, p0, q0, hargs, rfl, rfl, h0, r0⟩ := trodAll_cons hA
 obtain ⟨v1, vs1, d1, ds1, p1, q1, rfl, rfl, rfl, h1, r1⟩ := trodAll_cons r0
 obtain ⟨rfl, rfl, rfl⟩ := trodAll_nil r1
 obtain rfl : args = #[v0, v1] := by cases args; simp_all
 obtain ⟨rfl, rfl⟩ := trodVars_none hV
 have k0 := h0
 have lt0 : ∀ x ∈ p0, x.block < W.heap.size := by obtain ⟨m, hm⟩ := k0; exact DataW.trod_lt m _ _ _ hm
 obtain ⟨N0, T0, t00, t01, a0, len0, cap0, z0, rfl, w0⟩ := isCond_of condT_p (hval 0 45 v0 rfl rfl) h0
 obtain ⟨a1, len1, cap1, rfl⟩ := okWide_slice Tryz.underlying46 (hval 1 46 v1 rfl rfl)
 have k1 := h1
 have lt1 : ∀ x ∈ p1, x.block < W.heap.size := by obtain ⟨m, hm⟩ := k1; exact DataW.trod_lt m _ _ _ hm
 obtain ⟨z1, w1⟩ := isPointS_of pointRcT_p Tryz.underlying46 h1
 clear hA0 hval0
 refine (walk W N0 T0 t00 t01 a0 len0 cap0 z0 w0 a1 len1 cap1 z1 w1).mono fun e W' ⟨he, bel⟩ => ?_
 subst he
 exact ⟨_, rfl, _, _, _, [], _, [], hW', trodAll_mk1 (shut_bool Tryz.underlying4 _), (trodAll_cons_mk (Below.trod laidOut (by kernel_rfl) (of_decide_eq_true (by kernel_rfl)) k0 bel lt0) (trodAll_cons_mk (Below.trod laidOut (by kernel_rfl) (of_decide_eq_true (by kernel_rfl)) k1 bel lt1) trodAll_mk0)), rfl, bel.frame _, fun h => by cases h⟩
theorem over : Rows.fnExactApplyConditionalRow.holds Tryz.pinned (OpenSpec.ofChange Rows.fnExactApplyConditionalSpec) :=
 OpenClaim.holds_of_wide 4 Tryz.f4 rfl rfl rfl rfl rfl rfl rfl ⟨rfl, rfl, rfl, rfl, rfl⟩ rfl rfl rfl rfl rfl (by kernel_rfl) Tryz.func4 (by kernel_rfl)
   (of_decide_eq_true (by kernel_rfl)) (by unfold Func.isWrapper; first | (rw [if_pos (by decide +kernel)]; kernel_rfl) | (rw [if_neg (by decide +kernel)]; exact ⟨rfl, rfl⟩))
   (fun os started H enc _ => lifted os started H enc)
theorem proved : Rows.FnExactApplyConditionalSaid := over
#print axioms proved
end Go.Proofs.YtnmmgjddaidpaaaGreat.lawApplyConditional
