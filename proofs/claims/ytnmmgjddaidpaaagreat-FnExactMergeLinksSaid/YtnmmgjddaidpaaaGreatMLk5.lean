/- Links: two links merged, the model. Conditions: none. -/
import Derived.Test.YtnmmgjddaidpaaaGreatMLk5m
namespace Go.Proofs.YtnmmgjddaidpaaaGreat
open Go.RowKit Nt Fr
set_option linter.unusedVariables false
set_option maxRecDepth 100000 in
set_option maxHeartbeats 40000000 in
theorem mergeLinks_s (A B : Int) (P Q R : Fr) (p0 p1 q0 q1 r0 r1 : Value) (C E : Int) (V U T : Fr) (v0 v1 u0 u1 t0 t1 : Value) (w : World) (hL : LkA w P Q R p0 p1 q0 q1 r0 r1) (hM : LkA w V U T v0 v1 u0 u1 t0 t1) :
   Calls Tryz.prog 6 #[.agg #[.int .i64 A, .int .i64 B, .bool P.s, p0, p1, .bool Q.s, q0, q1, .bool R.s, r0, r1], .agg #[.int .i64 C, .int .i64 E, .bool V.s, v0, v1, .bool U.s, u0, u1, .bool T.s, t0, t1]] w (OwnMG (mgOk A B C E P Q R V U T) A B (P.add V) (mgX P Q V U) (mgX P R V T) (mgE P Q R V U T) w) := by
 have HL := Lib.hid hL
 have HM := Lib.hid hM
 clear hL hM
 have S_1 := Lib.hid (show St w ((((w.alloc (.cells #[.int .i64 A,.int .i64 B,.bool P.s,p0,p1,.bool Q.s,q0,q1,.bool R.s,r0,r1] 34)).alloc (.cells #[.int .i64 C,.int .i64 E,.bool V.s,v0,v1,.bool U.s,u0,u1,.bool T.s,t0,t1] 34)).alloc (.cells #[.int .i64 0,.int .i64 0,.bool false,.slice none 0 0,.slice none 0 0,.bool false,.slice none 0 0,.slice none 0 0,.bool false,.slice none 0 0,.slice none 0 0] 34)).alloc (.cells #[.bool false,.slice none 0 0,.slice none 0 0] 32)) [(w.heap.size + 1 + 1 + 1,[.bool false,.slice none 0 0,.slice none 0 0]),(w.heap.size + 1 + 1,[.int .i64 0,.int .i64 0,.bool false,.slice none 0 0,.slice none 0 0,.bool false,.slice none 0 0,.slice none 0 0,.bool false,.slice none 0 0,.slice none 0 0]),(w.heap.size + 1,[.int .i64 C,.int .i64 E,.bool V.s,v0,v1,.bool U.s,u0,u1,.bool T.s,t0,t1]),(w.heap.size,[.int .i64 A,.int .i64 B,.bool P.s,p0,p1,.bool Q.s,q0,q1,.bool R.s,r0,r1])] [] from (((((St.start w).alloc_at (b := w.heap.size) [.int .i64 A,.int .i64 B,.bool P.s,p0,p1,.bool Q.s,q0,q1,.bool R.s,r0,r1] 34 (by first | rfl | simp)).alloc_at (b := w.heap.size + 1) [.int .i64 C,.int .i64 E,.bool V.s,v0,v1,.bool U.s,u0,u1,.bool T.s,t0,t1] 34 (by first | rfl | simp)).alloc_at (b := w.heap.size + 1 + 1) [.int .i64 0,.int .i64 0,.bool false,.slice none 0 0,.slice none 0 0,.bool false,.slice none 0 0,.slice none 0 0,.bool false,.slice none 0 0,.slice none 0 0] 34 (by first | rfl | simp)).alloc_at (b := w.heap.size + 1 + 1 + 1) [.bool false,.slice none 0 0,.slice none 0 0] 32 (by first | rfl | simp)))
 have hne_rb_ra : w.heap.size + 1 + 1 + 1 ≠ w.heap.size + 1 + 1 := by omega
 have hne_rb_l : w.heap.size + 1 + 1 + 1 ≠ w.heap.size + 1 := by omega
 have hne_rb_k : w.heap.size + 1 + 1 + 1 ≠ w.heap.size := by omega
 have hne_ra_rb : w.heap.size + 1 + 1 ≠ w.heap.size + 1 + 1 + 1 := by omega
 have hne_ra_l : w.heap.size + 1 + 1 ≠ w.heap.size + 1 := by omega
 have hne_ra_k : w.heap.size + 1 + 1 ≠ w.heap.size := by omega
 have hne_l_rb : w.heap.size + 1 ≠ w.heap.size + 1 + 1 + 1 := by omega
 have hne_l_ra : w.heap.size + 1 ≠ w.heap.size + 1 + 1 := by omega
 have hne_l_k : w.heap.size + 1 ≠ w.heap.size := by omega
 have hne_k_rb : w.heap.size ≠ w.heap.size + 1 + 1 + 1 := by omega
 have hne_k_ra : w.heap.size ≠ w.heap.size + 1 + 1 := by omega
 have hne_k_l : w.heap.size ≠ w.heap.size + 1 := by omega
 by_cases h1 : okK A B P Q R = true
 · have H1 := Lib.hid h1
   clear h1
   by_cases h2 : okK C E V U T = true
   · have H2 := Lib.hid h2
     clear h2
     by_cases h3 : A = C
     · by_cases h4 : B = E
       · have HMW := Lib.hid (mg_mw H1.out H2.out h3 h4)
         rw [HMW.out]
         subst h3 h4
         obtain ⟨S, hS⟩ : ∃ z, P.add V = z := ⟨_, rfl⟩
         obtain ⟨M1, hM1⟩ : ∃ z, P.mul Q = z := ⟨_, rfl⟩
         obtain ⟨M2, hM2⟩ : ∃ z, V.mul U = z := ⟨_, rfl⟩
         obtain ⟨N1, hN1⟩ : ∃ z, M1.add M2 = z := ⟨_, rfl⟩
         obtain ⟨X, hX⟩ : ∃ z, N1.div S = z := ⟨_, rfl⟩
         obtain ⟨M3, hM3⟩ : ∃ z, P.mul R = z := ⟨_, rfl⟩
         obtain ⟨M4, hM4⟩ : ∃ z, V.mul T = z := ⟨_, rfl⟩
         obtain ⟨N2, hN2⟩ : ∃ z, M3.add M4 = z := ⟨_, rfl⟩
         obtain ⟨Y, hY⟩ : ∃ z, N2.div S = z := ⟨_, rfl⟩
         obtain ⟨D1, hD1⟩ : ∃ z, Q.sub U = z := ⟨_, rfl⟩
         obtain ⟨D2, hD2⟩ : ∃ z, R.sub T = z := ⟨_, rfl⟩
         obtain ⟨H, hH⟩ : ∃ z, D1.sq D2 = z := ⟨_, rfl⟩
         obtain ⟨W1, hW1⟩ : ∃ z, P.mul V = z := ⟨_, rfl⟩
         obtain ⟨W2, hW2⟩ : ∃ z, W1.div S = z := ⟨_, rfl⟩
         obtain ⟨G, hG⟩ : ∃ z, W2.mul H = z := ⟨_, rfl⟩
         have eX : mgX P Q V U = X := by unfold mgX; rw [hM1, hM2, hN1, hS, hX]
         have eY : mgX P R V T = Y := by unfold mgX; rw [hM3, hM4, hN2, hS, hY]
         have eG : mgE P Q R V U T = G := by unfold mgE; rw [hW1, hS, hW2, hD1, hD2, hH, hG]
         obtain ⟨ok, hok⟩ : ∃ z, mwOk A B P Q R V U T = z := ⟨_, rfl⟩
         have hokd : (okK A B S X Y && G.ok) = ok := by rw [← hok]; unfold mwOk; rw [eX, eY, eG, hS]
         rw [hok, eX, eY, eG, hS]
         have HOK := Lib.hid hokd
         clear hok hokd eX eY eG
         have HS := Lib.hid hS
         clear hS
         have HM1 := Lib.hid hM1
         clear hM1
         have HM2 := Lib.hid hM2
         clear hM2
         have HN1 := Lib.hid hN1
         clear hN1
         have HX := Lib.hid hX
         clear hX
         have HM3 := Lib.hid hM3
         clear hM3
         have HM4 := Lib.hid hM4
         clear hM4
         have HN2 := Lib.hid hN2
         clear hN2
         have HY := Lib.hid hY
         clear hY
         have HD1 := Lib.hid hD1
         clear hD1
         have HD2 := Lib.hid hD2
         clear hD2
         have HH := Lib.hid hH
         clear hH
         have HW1 := Lib.hid hW1
         clear hW1
         have HW2 := Lib.hid hW2
         clear hW2
         have HG := Lib.hid hG
         clear hG
         go_enter Tryz.func6, Tryz.ntmps6
         go_wp2_with fail
         refine (isValidLink_s A B P Q R p0 p1 q0 q1 r0 r1 _ (S_1.out.lkA HL.out)).mono ?_
         rintro e w1 ⟨rfl, hb⟩
         have S_2 := Lib.hid (S_1.out.call hb)
         clear S_1
         clear hb
         rw [H1.out]
         have hk_l_0_2 := S_2.out.cell 2 0 rfl rfl
         have hk_l_1_2 := S_2.out.cell 2 1 rfl rfl
         have hk_l_2_2 := S_2.out.cell 2 2 rfl rfl
         have hk_l_3_2 := S_2.out.cell 2 3 rfl rfl
         have hk_l_4_2 := S_2.out.cell 2 4 rfl rfl
         have hk_l_5_2 := S_2.out.cell 2 5 rfl rfl
         have hk_l_6_2 := S_2.out.cell 2 6 rfl rfl
         have hk_l_7_2 := S_2.out.cell 2 7 rfl rfl
         have hk_l_8_2 := S_2.out.cell 2 8 rfl rfl
         have hk_l_9_2 := S_2.out.cell 2 9 rfl rfl
         have hk_l_10_2 := S_2.out.cell 2 10 rfl rfl
         go_wp2_with fail
         refine (isValidLink_s A B V U T v0 v1 u0 u1 t0 t1 _ (S_2.out.lkA HM.out)).mono ?_
         rintro e w2 ⟨rfl, hb⟩
         have S_3 := Lib.hid (S_2.out.call hb)
         clear S_2
         clear hb
         rw [H2.out]
         clear hk_l_0_2 hk_l_1_2 hk_l_2_2 hk_l_3_2 hk_l_4_2 hk_l_5_2 hk_l_6_2 hk_l_7_2 hk_l_8_2 hk_l_9_2 hk_l_10_2
         have hk_k_0_3 := S_3.out.cell 3 0 rfl rfl
         have hk_k_1_3 := S_3.out.cell 3 1 rfl rfl
         have hk_k_2_3 := S_3.out.cell 3 2 rfl rfl
         have hk_k_3_3 := S_3.out.cell 3 3 rfl rfl
         have hk_k_4_3 := S_3.out.cell 3 4 rfl rfl
         have hk_k_5_3 := S_3.out.cell 3 5 rfl rfl
         have hk_k_6_3 := S_3.out.cell 3 6 rfl rfl
         have hk_k_7_3 := S_3.out.cell 3 7 rfl rfl
         have hk_k_8_3 := S_3.out.cell 3 8 rfl rfl
         have hk_k_9_3 := S_3.out.cell 3 9 rfl rfl
         have hk_k_10_3 := S_3.out.cell 3 10 rfl rfl
         have hk_l_0_3 := S_3.out.cell 2 0 rfl rfl
         have hk_l_1_3 := S_3.out.cell 2 1 rfl rfl
         have hk_l_2_3 := S_3.out.cell 2 2 rfl rfl
         have hk_l_3_3 := S_3.out.cell 2 3 rfl rfl
         have hk_l_4_3 := S_3.out.cell 2 4 rfl rfl
         have hk_l_5_3 := S_3.out.cell 2 5 rfl rfl
         have hk_l_6_3 := S_3.out.cell 2 6 rfl rfl
         have hk_l_7_3 := S_3.out.cell 2 7 rfl rfl
         have hk_l_8_3 := S_3.out.cell 2 8 rfl rfl
         have hk_l_9_3 := S_3.out.cell 2 9 rfl rfl
         have hk_l_10_3 := S_3.out.cell 2 10 rfl rfl
         go_wp2_with fail
         refine (ratAdd_s P V p0 p1 v0 v1 _ (S_3.out.lkA HL.out).p (S_3.out.lkA HM.out).p).mono ?_
         rintro e w3 ⟨v0, u0, rfl, ho, hb⟩
         obtain ⟨A0, n0, c0, rfl⟩ := (ho.at_ 0 rfl).shape3
         obtain ⟨B0, m0, d0, rfl⟩ := (ho.at_ 1 rfl).shape3
         have S_4 := Lib.hid (S_3.out.rows ho hb)
         clear S_3
         clear ho hb
         rw [HS.out] at S_4 ⊢
         have S_5 := Lib.hid (S_4.out.allocE [.bool S.s, (.slice A0 n0 c0), (.slice B0 m0 d0)] 32)
         clear S_4
         have hne_rb_tot := S_5.out.ne 0 4 rfl rfl (by decide)
         have hne_tot_rb := S_5.out.ne 4 0 rfl rfl (by decide)
         have hne_ra_tot := S_5.out.ne 1 4 rfl rfl (by decide)
         have hne_tot_ra := S_5.out.ne 4 1 rfl rfl (by decide)
         have hne_l_tot := S_5.out.ne 2 4 rfl rfl (by decide)
         have hne_tot_l := S_5.out.ne 4 2 rfl rfl (by decide)
         have hne_k_tot := S_5.out.ne 3 4 rfl rfl (by decide)
         have hne_tot_k := S_5.out.ne 4 3 rfl rfl (by decide)
         clear hk_k_0_3 hk_k_1_3 hk_k_2_3 hk_k_3_3 hk_k_4_3 hk_k_5_3 hk_k_6_3 hk_k_7_3 hk_k_8_3 hk_k_9_3 hk_k_10_3 hk_l_0_3 hk_l_1_3 hk_l_2_3 hk_l_3_3 hk_l_4_3 hk_l_5_3 hk_l_6_3 hk_l_7_3 hk_l_8_3 hk_l_9_3 hk_l_10_3
         have hk_k_0_5 := S_5.out.cell 3 0 rfl rfl
         have hk_k_1_5 := S_5.out.cell 3 1 rfl rfl
         have hk_k_2_5 := S_5.out.cell 3 2 rfl rfl
         have hk_k_3_5 := S_5.out.cell 3 3 rfl rfl
         have hk_k_4_5 := S_5.out.cell 3 4 rfl rfl
         have hk_k_5_5 := S_5.out.cell 3 5 rfl rfl
         have hk_k_6_5 := S_5.out.cell 3 6 rfl rfl
         have hk_k_7_5 := S_5.out.cell 3 7 rfl rfl
         have hk_k_8_5 := S_5.out.cell 3 8 rfl rfl
         have hk_k_9_5 := S_5.out.cell 3 9 rfl rfl
         have hk_k_10_5 := S_5.out.cell 3 10 rfl rfl
         have hk_l_0_5 := S_5.out.cell 2 0 rfl rfl
         have hk_l_1_5 := S_5.out.cell 2 1 rfl rfl
         have hk_l_2_5 := S_5.out.cell 2 2 rfl rfl
         have hk_l_3_5 := S_5.out.cell 2 3 rfl rfl
         have hk_l_4_5 := S_5.out.cell 2 4 rfl rfl
         have hk_l_5_5 := S_5.out.cell 2 5 rfl rfl
         have hk_l_6_5 := S_5.out.cell 2 6 rfl rfl
         have hk_l_7_5 := S_5.out.cell 2 7 rfl rfl
         have hk_l_8_5 := S_5.out.cell 2 8 rfl rfl
         have hk_l_9_5 := S_5.out.cell 2 9 rfl rfl
         have hk_l_10_5 := S_5.out.cell 2 10 rfl rfl
         go_upto_region 4 with fail
         clear hk_k_0_5 hk_k_1_5 hk_k_2_5 hk_k_3_5 hk_k_4_5 hk_k_5_5 hk_k_6_5 hk_k_7_5 hk_k_8_5 hk_k_9_5 hk_k_10_5 hk_l_0_5 hk_l_1_5 hk_l_2_5 hk_l_3_5 hk_l_4_5 hk_l_5_5 hk_l_6_5 hk_l_7_5 hk_l_8_5 hk_l_9_5 hk_l_10_5
         obtain ⟨wb, hwb⟩ : ∃ u, (w3.alloc (.cells #[.bool S.s, (.slice A0 n0 c0), (.slice B0 m0 d0)] 32)) = u := ⟨_, rfl⟩
         rw [hwb] at S_5 ⊢
         clear hwb
         have hk_k_0_5 := S_5.out.cell 3 0 rfl rfl
         have hk_k_1_5 := S_5.out.cell 3 1 rfl rfl
         have hk_k_2_5 := S_5.out.cell 3 2 rfl rfl
         have hk_k_3_5 := S_5.out.cell 3 3 rfl rfl
         have hk_k_4_5 := S_5.out.cell 3 4 rfl rfl
         have hk_k_5_5 := S_5.out.cell 3 5 rfl rfl
         have hk_k_6_5 := S_5.out.cell 3 6 rfl rfl
         have hk_k_7_5 := S_5.out.cell 3 7 rfl rfl
         have hk_k_8_5 := S_5.out.cell 3 8 rfl rfl
         have hk_k_9_5 := S_5.out.cell 3 9 rfl rfl
         have hk_k_10_5 := S_5.out.cell 3 10 rfl rfl
         have hk_l_0_5 := S_5.out.cell 2 0 rfl rfl
         have hk_l_1_5 := S_5.out.cell 2 1 rfl rfl
         have hk_l_2_5 := S_5.out.cell 2 2 rfl rfl
         have hk_l_3_5 := S_5.out.cell 2 3 rfl rfl
         have hk_l_4_5 := S_5.out.cell 2 4 rfl rfl
         have hk_l_5_5 := S_5.out.cell 2 5 rfl rfl
         have hk_l_6_5 := S_5.out.cell 2 6 rfl rfl
         have hk_l_7_5 := S_5.out.cell 2 7 rfl rfl
         have hk_l_8_5 := S_5.out.cell 2 8 rfl rfl
         have hk_l_9_5 := S_5.out.cell 2 9 rfl rfl
         have hk_l_10_5 := S_5.out.cell 2 10 rfl rfl
         have hk_tot_0_5 := S_5.out.cell 4 0 rfl rfl
         have hk_tot_1_5 := S_5.out.cell 4 1 rfl rfl
         have hk_tot_2_5 := S_5.out.cell 4 2 rfl rfl
         have S_6 := Lib.hid (S_5.out.allocE [.int .i64 A, .int .i64 B, .bool S.s, (.slice A0 n0 c0), (.slice B0 m0 d0), .bool false, .slice none 0 0, .slice none 0 0, .bool false, .slice none 0 0, .slice none 0 0] 34)
         clear S_5
         have hne_rb_out := S_6.out.ne 0 5 rfl rfl (by decide)
         have hne_out_rb := S_6.out.ne 5 0 rfl rfl (by decide)
         have hne_ra_out := S_6.out.ne 1 5 rfl rfl (by decide)
         have hne_out_ra := S_6.out.ne 5 1 rfl rfl (by decide)
         have hne_l_out := S_6.out.ne 2 5 rfl rfl (by decide)
         have hne_out_l := S_6.out.ne 5 2 rfl rfl (by decide)
         have hne_k_out := S_6.out.ne 3 5 rfl rfl (by decide)
         have hne_out_k := S_6.out.ne 5 3 rfl rfl (by decide)
         have hne_tot_out := S_6.out.ne 4 5 rfl rfl (by decide)
         have hne_out_tot := S_6.out.ne 5 4 rfl rfl (by decide)
         go_upto_region 5 with fail
         clear hk_k_0_5 hk_k_1_5 hk_k_2_5 hk_k_3_5 hk_k_4_5 hk_k_5_5 hk_k_6_5 hk_k_7_5 hk_k_8_5 hk_k_9_5 hk_k_10_5 hk_l_0_5 hk_l_1_5 hk_l_2_5 hk_l_3_5 hk_l_4_5 hk_l_5_5 hk_l_6_5 hk_l_7_5 hk_l_8_5 hk_l_9_5 hk_l_10_5 hk_tot_0_5 hk_tot_1_5 hk_tot_2_5
         obtain ⟨wd, hwd⟩ : ∃ u, (wb.alloc (.cells #[.int .i64 A, .int .i64 B, .bool S.s, (.slice A0 n0 c0), (.slice B0 m0 d0), .bool false, .slice none 0 0, .slice none 0 0, .bool false, .slice none 0 0, .slice none 0 0] 34)) = u := ⟨_, rfl⟩
         rw [hwd] at S_6 ⊢
         clear hwd
         have hk_k_0_6 := S_6.out.cell 3 0 rfl rfl
         have hk_k_1_6 := S_6.out.cell 3 1 rfl rfl
         have hk_k_2_6 := S_6.out.cell 3 2 rfl rfl
         have hk_k_3_6 := S_6.out.cell 3 3 rfl rfl
         have hk_k_4_6 := S_6.out.cell 3 4 rfl rfl
         have hk_k_5_6 := S_6.out.cell 3 5 rfl rfl
         have hk_k_6_6 := S_6.out.cell 3 6 rfl rfl
         have hk_k_7_6 := S_6.out.cell 3 7 rfl rfl
         have hk_k_8_6 := S_6.out.cell 3 8 rfl rfl
         have hk_k_9_6 := S_6.out.cell 3 9 rfl rfl
         have hk_k_10_6 := S_6.out.cell 3 10 rfl rfl
         have hk_l_0_6 := S_6.out.cell 2 0 rfl rfl
         have hk_l_1_6 := S_6.out.cell 2 1 rfl rfl
         have hk_l_2_6 := S_6.out.cell 2 2 rfl rfl
         have hk_l_3_6 := S_6.out.cell 2 3 rfl rfl
         have hk_l_4_6 := S_6.out.cell 2 4 rfl rfl
         have hk_l_5_6 := S_6.out.cell 2 5 rfl rfl
         have hk_l_6_6 := S_6.out.cell 2 6 rfl rfl
         have hk_l_7_6 := S_6.out.cell 2 7 rfl rfl
         have hk_l_8_6 := S_6.out.cell 2 8 rfl rfl
         have hk_l_9_6 := S_6.out.cell 2 9 rfl rfl
         have hk_l_10_6 := S_6.out.cell 2 10 rfl rfl
         have hk_tot_0_6 := S_6.out.cell 4 0 rfl rfl
         have hk_tot_1_6 := S_6.out.cell 4 1 rfl rfl
         have hk_tot_2_6 := S_6.out.cell 4 2 rfl rfl
         skip
         go_region_held3 (fun w' => w'.cell? ⟨w.heap.size + 1, 0, none⟩ = some (.int .i64 A) ∧ w'.cell? ⟨w.heap.size + 1, 1, none⟩ = some (.int .i64 B) ∧ w'.cell? ⟨w.heap.size + 1, 2, none⟩ = some (.bool V.s) ∧ w'.cell? ⟨w.heap.size + 1, 3, none⟩ = some (v0) ∧ w'.cell? ⟨w.heap.size + 1, 4, none⟩ = some (v1) ∧ w'.cell? ⟨w.heap.size + 1, 5, none⟩ = some (.bool U.s) ∧ w'.cell? ⟨w.heap.size + 1, 6, none⟩ = some (u0) ∧ w'.cell? ⟨w.heap.size + 1, 7, none⟩ = some (u1) ∧ w'.cell? ⟨w.heap.size + 1, 8, none⟩ = some (.bool T.s) ∧ w'.cell? ⟨w.heap.size + 1, 9, none⟩ = some (t0) ∧ w'.cell? ⟨w.heap.size + 1, 10, none⟩ = some (t1) ∧ w'.cell? ⟨w.heap.size, 0, none⟩ = some (.int .i64 A) ∧ w'.cell? ⟨w.heap.size, 1, none⟩ = some (.int .i64 B) ∧ w'.cell? ⟨w.heap.size, 2, none⟩ = some (.bool P.s) ∧ w'.cell? ⟨w.heap.size, 3, none⟩ = some (p0) ∧ w'.cell? ⟨w.heap.size, 4, none⟩ = some (p1) ∧ w'.cell? ⟨w.heap.size, 5, none⟩ = some (.bool Q.s) ∧ w'.cell? ⟨w.heap.size, 6, none⟩ = some (q0) ∧ w'.cell? ⟨w.heap.size, 7, none⟩ = some (q1) ∧ w'.cell? ⟨w.heap.size, 8, none⟩ = some (.bool R.s) ∧ w'.cell? ⟨w.heap.size, 9, none⟩ = some (r0) ∧ w'.cell? ⟨w.heap.size, 10, none⟩ = some (r1) ∧ w'.cell? ⟨w3.heap.size, 0, none⟩ = some (.bool S.s) ∧ w'.cell? ⟨w3.heap.size, 1, none⟩ = some ((.slice A0 n0 c0)) ∧ w'.cell? ⟨w3.heap.size, 2, none⟩ = some ((.slice B0 m0 d0))) (go_keep)
           (first
             | (go_at_call_of 32 (Value.agg #[Value.bool P.s,p0,p1])
                go_at_call_of 32 (Value.agg #[Value.bool Q.s,q0,q1])
                refine (ratMul_s P Q p0 p1 q0 q1 _ (S_6.out.drew.lkA HL.out).p (S_6.out.drew.lkA HL.out).q).mono ?_
                rintro e wx1 ⟨vx1, ux1, rfl, ho, hb⟩
                obtain ⟨Ax1, nx1, cx1, rfl⟩ := (ho.at_ 0 rfl).shape3
                obtain ⟨Bx1, mx1, dx1, rfl⟩ := (ho.at_ 1 rfl).shape3
                rw [HM1.out] at ho ⊢
                have S_7 := Lib.hid (S_6.out.drew.rows ho hb)
                clear S_6 ho hb
                have hk_k_0_7 := S_7.out.cell 3 0 rfl rfl
                have hk_k_1_7 := S_7.out.cell 3 1 rfl rfl
                have hk_k_2_7 := S_7.out.cell 3 2 rfl rfl
                have hk_k_3_7 := S_7.out.cell 3 3 rfl rfl
                have hk_k_4_7 := S_7.out.cell 3 4 rfl rfl
                have hk_k_5_7 := S_7.out.cell 3 5 rfl rfl
                have hk_k_6_7 := S_7.out.cell 3 6 rfl rfl
                have hk_k_7_7 := S_7.out.cell 3 7 rfl rfl
                have hk_k_8_7 := S_7.out.cell 3 8 rfl rfl
                have hk_k_9_7 := S_7.out.cell 3 9 rfl rfl
                have hk_k_10_7 := S_7.out.cell 3 10 rfl rfl
                have hk_l_0_7 := S_7.out.cell 2 0 rfl rfl
                have hk_l_1_7 := S_7.out.cell 2 1 rfl rfl
                have hk_l_2_7 := S_7.out.cell 2 2 rfl rfl
                have hk_l_3_7 := S_7.out.cell 2 3 rfl rfl
                have hk_l_4_7 := S_7.out.cell 2 4 rfl rfl
                have hk_l_5_7 := S_7.out.cell 2 5 rfl rfl
                have hk_l_6_7 := S_7.out.cell 2 6 rfl rfl
                have hk_l_7_7 := S_7.out.cell 2 7 rfl rfl
                have hk_l_8_7 := S_7.out.cell 2 8 rfl rfl
                have hk_l_9_7 := S_7.out.cell 2 9 rfl rfl
                have hk_l_10_7 := S_7.out.cell 2 10 rfl rfl
                have hk_tot_0_7 := S_7.out.cell 4 0 rfl rfl
                have hk_tot_1_7 := S_7.out.cell 4 1 rfl rfl
                have hk_tot_2_7 := S_7.out.cell 4 2 rfl rfl)
             | (go_at_call_of 32 (Value.agg #[Value.bool V.s,v0,v1])
                go_at_call_of 32 (Value.agg #[Value.bool U.s,u0,u1])
                refine (ratMul_s V U v0 v1 u0 u1 _ (S_7.out.lkA HM.out).p (S_7.out.lkA HM.out).q).mono ?_
                rintro e wx2 ⟨vx2, ux2, rfl, ho, hb⟩
                obtain ⟨Ax2, nx2, cx2, rfl⟩ := (ho.at_ 0 rfl).shape3
                obtain ⟨Bx2, mx2, dx2, rfl⟩ := (ho.at_ 1 rfl).shape3
                rw [HM2.out] at ho ⊢
                have S_8 := Lib.hid (S_7.out.rows ho hb)
                clear S_7 ho hb
                have hk_k_0_8 := S_8.out.cell 3 0 rfl rfl
                have hk_k_1_8 := S_8.out.cell 3 1 rfl rfl
                have hk_k_2_8 := S_8.out.cell 3 2 rfl rfl
                have hk_k_3_8 := S_8.out.cell 3 3 rfl rfl
                have hk_k_4_8 := S_8.out.cell 3 4 rfl rfl
                have hk_k_5_8 := S_8.out.cell 3 5 rfl rfl
                have hk_k_6_8 := S_8.out.cell 3 6 rfl rfl
                have hk_k_7_8 := S_8.out.cell 3 7 rfl rfl
                have hk_k_8_8 := S_8.out.cell 3 8 rfl rfl
                have hk_k_9_8 := S_8.out.cell 3 9 rfl rfl
                have hk_k_10_8 := S_8.out.cell 3 10 rfl rfl
                have hk_l_0_8 := S_8.out.cell 2 0 rfl rfl
                have hk_l_1_8 := S_8.out.cell 2 1 rfl rfl
                have hk_l_2_8 := S_8.out.cell 2 2 rfl rfl
                have hk_l_3_8 := S_8.out.cell 2 3 rfl rfl
                have hk_l_4_8 := S_8.out.cell 2 4 rfl rfl
                have hk_l_5_8 := S_8.out.cell 2 5 rfl rfl
                have hk_l_6_8 := S_8.out.cell 2 6 rfl rfl
                have hk_l_7_8 := S_8.out.cell 2 7 rfl rfl
                have hk_l_8_8 := S_8.out.cell 2 8 rfl rfl
                have hk_l_9_8 := S_8.out.cell 2 9 rfl rfl
                have hk_l_10_8 := S_8.out.cell 2 10 rfl rfl
                have hk_tot_0_8 := S_8.out.cell 4 0 rfl rfl
                have hk_tot_1_8 := S_8.out.cell 4 1 rfl rfl
                have hk_tot_2_8 := S_8.out.cell 4 2 rfl rfl)
             | (go_at_call_of 30 (Value.agg #[Value.bool M1.s,(Value.slice Ax1 nx1 cx1),(Value.slice Bx1 mx1 dx1)])
                refine (ratAdd_s M1 M2 (.slice Ax1 nx1 cx1) (.slice Bx1 mx1 dx1) (.slice Ax2 nx2 cx2) (.slice Bx2 mx2 dx2) _ (S_8.out.fr 1 0 rfl rfl rfl) (S_8.out.fr 0 0 rfl rfl rfl)).mono ?_
                rintro e wx3 ⟨vx3, ux3, rfl, ho, hb⟩
                obtain ⟨Ax3, nx3, cx3, rfl⟩ := (ho.at_ 0 rfl).shape3
                obtain ⟨Bx3, mx3, dx3, rfl⟩ := (ho.at_ 1 rfl).shape3
                rw [HN1.out] at ho ⊢
                have S_9 := Lib.hid (S_8.out.rows ho hb)
                clear S_8 ho hb
                have hk_k_0_9 := S_9.out.cell 3 0 rfl rfl
                have hk_k_1_9 := S_9.out.cell 3 1 rfl rfl
                have hk_k_2_9 := S_9.out.cell 3 2 rfl rfl
                have hk_k_3_9 := S_9.out.cell 3 3 rfl rfl
                have hk_k_4_9 := S_9.out.cell 3 4 rfl rfl
                have hk_k_5_9 := S_9.out.cell 3 5 rfl rfl
                have hk_k_6_9 := S_9.out.cell 3 6 rfl rfl
                have hk_k_7_9 := S_9.out.cell 3 7 rfl rfl
                have hk_k_8_9 := S_9.out.cell 3 8 rfl rfl
                have hk_k_9_9 := S_9.out.cell 3 9 rfl rfl
                have hk_k_10_9 := S_9.out.cell 3 10 rfl rfl
                have hk_l_0_9 := S_9.out.cell 2 0 rfl rfl
                have hk_l_1_9 := S_9.out.cell 2 1 rfl rfl
                have hk_l_2_9 := S_9.out.cell 2 2 rfl rfl
                have hk_l_3_9 := S_9.out.cell 2 3 rfl rfl
                have hk_l_4_9 := S_9.out.cell 2 4 rfl rfl
                have hk_l_5_9 := S_9.out.cell 2 5 rfl rfl
                have hk_l_6_9 := S_9.out.cell 2 6 rfl rfl
                have hk_l_7_9 := S_9.out.cell 2 7 rfl rfl
                have hk_l_8_9 := S_9.out.cell 2 8 rfl rfl
                have hk_l_9_9 := S_9.out.cell 2 9 rfl rfl
                have hk_l_10_9 := S_9.out.cell 2 10 rfl rfl
                have hk_tot_0_9 := S_9.out.cell 4 0 rfl rfl
                have hk_tot_1_9 := S_9.out.cell 4 1 rfl rfl
                have hk_tot_2_9 := S_9.out.cell 4 2 rfl rfl)
             | (go_at_call_of 31 (Value.agg #[Value.bool N1.s,(Value.slice Ax3 nx3 cx3),(Value.slice Bx3 mx3 dx3)])
                refine (ratDiv_s N1 S (.slice Ax3 nx3 cx3) (.slice Bx3 mx3 dx3) (.slice A0 n0 c0) (.slice B0 m0 d0) _ (S_9.out.fr 0 0 rfl rfl rfl) (S_9.out.fr 3 0 rfl rfl rfl)).mono ?_
                rintro e wx4 ⟨vx4, ux4, rfl, ho, hb⟩
                obtain ⟨Ax4, nx4, cx4, rfl⟩ := (ho.at_ 0 rfl).shape3
                obtain ⟨Bx4, mx4, dx4, rfl⟩ := (ho.at_ 1 rfl).shape3
                rw [HX.out] at ho ⊢
                have S_10 := Lib.hid (S_9.out.rows ho hb)
                clear S_9 ho hb
                have hk_k_0_10 := S_10.out.cell 3 0 rfl rfl
                have hk_k_1_10 := S_10.out.cell 3 1 rfl rfl
                have hk_k_2_10 := S_10.out.cell 3 2 rfl rfl
                have hk_k_3_10 := S_10.out.cell 3 3 rfl rfl
                have hk_k_4_10 := S_10.out.cell 3 4 rfl rfl
                have hk_k_5_10 := S_10.out.cell 3 5 rfl rfl
                have hk_k_6_10 := S_10.out.cell 3 6 rfl rfl
                have hk_k_7_10 := S_10.out.cell 3 7 rfl rfl
                have hk_k_8_10 := S_10.out.cell 3 8 rfl rfl
                have hk_k_9_10 := S_10.out.cell 3 9 rfl rfl
                have hk_k_10_10 := S_10.out.cell 3 10 rfl rfl
                have hk_l_0_10 := S_10.out.cell 2 0 rfl rfl
                have hk_l_1_10 := S_10.out.cell 2 1 rfl rfl
                have hk_l_2_10 := S_10.out.cell 2 2 rfl rfl
                have hk_l_3_10 := S_10.out.cell 2 3 rfl rfl
                have hk_l_4_10 := S_10.out.cell 2 4 rfl rfl
                have hk_l_5_10 := S_10.out.cell 2 5 rfl rfl
                have hk_l_6_10 := S_10.out.cell 2 6 rfl rfl
                have hk_l_7_10 := S_10.out.cell 2 7 rfl rfl
                have hk_l_8_10 := S_10.out.cell 2 8 rfl rfl
                have hk_l_9_10 := S_10.out.cell 2 9 rfl rfl
                have hk_l_10_10 := S_10.out.cell 2 10 rfl rfl
                have hk_tot_0_10 := S_10.out.cell 4 0 rfl rfl
                have hk_tot_1_10 := S_10.out.cell 4 1 rfl rfl
                have hk_tot_2_10 := S_10.out.cell 4 2 rfl rfl
                have hk_out_0_10 := S_10.out.cell 5 0 rfl rfl
                have hk_out_0_10f := S_10.out.froz 5 0 rfl rfl
                have hk_out_1_10 := S_10.out.cell 5 1 rfl rfl
                have hk_out_1_10f := S_10.out.froz 5 1 rfl rfl
                have hk_out_2_10 := S_10.out.cell 5 2 rfl rfl
                have hk_out_2_10f := S_10.out.froz 5 2 rfl rfl
                have hk_out_3_10 := S_10.out.cell 5 3 rfl rfl
                have hk_out_3_10f := S_10.out.froz 5 3 rfl rfl
                have hk_out_4_10 := S_10.out.cell 5 4 rfl rfl
                have hk_out_4_10f := S_10.out.froz 5 4 rfl rfl
                have hk_out_5_10 := S_10.out.cell 5 5 rfl rfl
                have hk_out_5_10f := S_10.out.froz 5 5 rfl rfl
                have hk_out_6_10 := S_10.out.cell 5 6 rfl rfl
                have hk_out_6_10f := S_10.out.froz 5 6 rfl rfl
                have hk_out_7_10 := S_10.out.cell 5 7 rfl rfl
                have hk_out_7_10f := S_10.out.froz 5 7 rfl rfl
                have hk_out_8_10 := S_10.out.cell 5 8 rfl rfl
                have hk_out_8_10f := S_10.out.froz 5 8 rfl rfl
                have hk_out_9_10 := S_10.out.cell 5 9 rfl rfl
                have hk_out_9_10f := S_10.out.froz 5 9 rfl rfl
                have hk_out_10_10 := S_10.out.cell 5 10 rfl rfl
                have hk_out_10_10f := S_10.out.froz 5 10 rfl rfl))
         go_upto_region 6 with fail
         have S_11 := Lib.hid (show St w (((wx4.setCell ⟨wb.heap.size,5,none⟩ (.bool X.s)).setCell ⟨wb.heap.size,6,none⟩ ((.slice Ax4 nx4 cx4))).setCell ⟨wb.heap.size,7,none⟩ ((.slice Bx4 mx4 dx4))) [(w.heap.size + 1 + 1 + 1,[.bool false,.slice none 0 0,.slice none 0 0]),(w.heap.size + 1 + 1,[.int .i64 0,.int .i64 0,.bool false,.slice none 0 0,.slice none 0 0,.bool false,.slice none 0 0,.slice none 0 0,.bool false,.slice none 0 0,.slice none 0 0]),(w.heap.size + 1,[.int .i64 A,.int .i64 B,.bool V.s,v0,v1,.bool U.s,u0,u1,.bool T.s,t0,t1]),(w.heap.size,[.int .i64 A,.int .i64 B,.bool P.s,p0,p1,.bool Q.s,q0,q1,.bool R.s,r0,r1]),(w3.heap.size,[.bool S.s,(.slice A0 n0 c0),(.slice B0 m0 d0)]),(wb.heap.size,[.int .i64 A,.int .i64 B,.bool S.s,(.slice A0 n0 c0),(.slice B0 m0 d0),.bool X.s,(.slice Ax4 nx4 cx4),(.slice Bx4 mx4 dx4),.bool false,.slice none 0 0,.slice none 0 0])] [[((.slice Ax4 nx4 cx4),ints X.xs),((.slice Bx4 mx4 dx4),ints X.ys)],[((.slice Ax3 nx3 cx3),ints N1.xs),((.slice Bx3 mx3 dx3),ints N1.ys)],[((.slice Ax2 nx2 cx2),ints M2.xs),((.slice Bx2 mx2 dx2),ints M2.ys)],[((.slice Ax1 nx1 cx1),ints M1.xs),((.slice Bx1 mx1 dx1),ints M1.ys)],[((.slice A0 n0 c0),ints S.xs),((.slice B0 m0 d0),ints S.ys)]] from (((S_10.out.set 5 5 (.bool X.s) rfl rfl).set 5 6 ((.slice Ax4 nx4 cx4)) rfl rfl).set 5 7 ((.slice Bx4 mx4 dx4)) rfl rfl))
         clear S_10
         obtain ⟨we, hwe⟩ : ∃ u, (((wx4.setCell ⟨wb.heap.size, 5, none⟩ (.bool X.s)).setCell ⟨wb.heap.size, 6, none⟩ ((.slice Ax4 nx4 cx4))).setCell ⟨wb.heap.size, 7, none⟩ ((.slice Bx4 mx4 dx4))) = u := ⟨_, rfl⟩
         rw [hwe] at S_11 ⊢
         clear hwe
         have hk_k_0_11 := S_11.out.cell 3 0 rfl rfl
         have hk_k_1_11 := S_11.out.cell 3 1 rfl rfl
         have hk_k_2_11 := S_11.out.cell 3 2 rfl rfl
         have hk_k_3_11 := S_11.out.cell 3 3 rfl rfl
         have hk_k_4_11 := S_11.out.cell 3 4 rfl rfl
         have hk_k_5_11 := S_11.out.cell 3 5 rfl rfl
         have hk_k_6_11 := S_11.out.cell 3 6 rfl rfl
         have hk_k_7_11 := S_11.out.cell 3 7 rfl rfl
         have hk_k_8_11 := S_11.out.cell 3 8 rfl rfl
         have hk_k_9_11 := S_11.out.cell 3 9 rfl rfl
         have hk_k_10_11 := S_11.out.cell 3 10 rfl rfl
         have hk_l_0_11 := S_11.out.cell 2 0 rfl rfl
         have hk_l_1_11 := S_11.out.cell 2 1 rfl rfl
         have hk_l_2_11 := S_11.out.cell 2 2 rfl rfl
         have hk_l_3_11 := S_11.out.cell 2 3 rfl rfl
         have hk_l_4_11 := S_11.out.cell 2 4 rfl rfl
         have hk_l_5_11 := S_11.out.cell 2 5 rfl rfl
         have hk_l_6_11 := S_11.out.cell 2 6 rfl rfl
         have hk_l_7_11 := S_11.out.cell 2 7 rfl rfl
         have hk_l_8_11 := S_11.out.cell 2 8 rfl rfl
         have hk_l_9_11 := S_11.out.cell 2 9 rfl rfl
         have hk_l_10_11 := S_11.out.cell 2 10 rfl rfl
         have hk_tot_0_11 := S_11.out.cell 4 0 rfl rfl
         have hk_tot_1_11 := S_11.out.cell 4 1 rfl rfl
         have hk_tot_2_11 := S_11.out.cell 4 2 rfl rfl
         skip
         go_region_held3 (fun w' => w'.cell? ⟨w.heap.size + 1, 0, none⟩ = some (.int .i64 A) ∧ w'.cell? ⟨w.heap.size + 1, 1, none⟩ = some (.int .i64 B) ∧ w'.cell? ⟨w.heap.size + 1, 2, none⟩ = some (.bool V.s) ∧ w'.cell? ⟨w.heap.size + 1, 3, none⟩ = some (v0) ∧ w'.cell? ⟨w.heap.size + 1, 4, none⟩ = some (v1) ∧ w'.cell? ⟨w.heap.size + 1, 5, none⟩ = some (.bool U.s) ∧ w'.cell? ⟨w.heap.size + 1, 6, none⟩ = some (u0) ∧ w'.cell? ⟨w.heap.size + 1, 7, none⟩ = some (u1) ∧ w'.cell? ⟨w.heap.size + 1, 8, none⟩ = some (.bool T.s) ∧ w'.cell? ⟨w.heap.size + 1, 9, none⟩ = some (t0) ∧ w'.cell? ⟨w.heap.size + 1, 10, none⟩ = some (t1) ∧ w'.cell? ⟨w.heap.size, 0, none⟩ = some (.int .i64 A) ∧ w'.cell? ⟨w.heap.size, 1, none⟩ = some (.int .i64 B) ∧ w'.cell? ⟨w.heap.size, 2, none⟩ = some (.bool P.s) ∧ w'.cell? ⟨w.heap.size, 3, none⟩ = some (p0) ∧ w'.cell? ⟨w.heap.size, 4, none⟩ = some (p1) ∧ w'.cell? ⟨w.heap.size, 5, none⟩ = some (.bool Q.s) ∧ w'.cell? ⟨w.heap.size, 6, none⟩ = some (q0) ∧ w'.cell? ⟨w.heap.size, 7, none⟩ = some (q1) ∧ w'.cell? ⟨w.heap.size, 8, none⟩ = some (.bool R.s) ∧ w'.cell? ⟨w.heap.size, 9, none⟩ = some (r0) ∧ w'.cell? ⟨w.heap.size, 10, none⟩ = some (r1) ∧ w'.cell? ⟨w3.heap.size, 0, none⟩ = some (.bool S.s) ∧ w'.cell? ⟨w3.heap.size, 1, none⟩ = some ((.slice A0 n0 c0)) ∧ w'.cell? ⟨w3.heap.size, 2, none⟩ = some ((.slice B0 m0 d0))) (go_keep)
           (first
             | (go_at_call_of 32 (Value.agg #[Value.bool P.s,p0,p1])
                go_at_call_of 32 (Value.agg #[Value.bool R.s,r0,r1])
                refine (ratMul_s P R p0 p1 r0 r1 _ (S_11.out.drew.lkA HL.out).p (S_11.out.drew.lkA HL.out).r).mono ?_
                rintro e wy1 ⟨vy1, uy1, rfl, ho, hb⟩
                obtain ⟨Ay1, ny1, cy1, rfl⟩ := (ho.at_ 0 rfl).shape3
                obtain ⟨By1, my1, dy1, rfl⟩ := (ho.at_ 1 rfl).shape3
                rw [HM3.out] at ho ⊢
                have S_12 := Lib.hid (S_11.out.drew.rows ho hb)
                clear S_11 ho hb
                have hk_k_0_12 := S_12.out.cell 3 0 rfl rfl
                have hk_k_1_12 := S_12.out.cell 3 1 rfl rfl
                have hk_k_2_12 := S_12.out.cell 3 2 rfl rfl
                have hk_k_3_12 := S_12.out.cell 3 3 rfl rfl
                have hk_k_4_12 := S_12.out.cell 3 4 rfl rfl
                have hk_k_5_12 := S_12.out.cell 3 5 rfl rfl
                have hk_k_6_12 := S_12.out.cell 3 6 rfl rfl
                have hk_k_7_12 := S_12.out.cell 3 7 rfl rfl
                have hk_k_8_12 := S_12.out.cell 3 8 rfl rfl
                have hk_k_9_12 := S_12.out.cell 3 9 rfl rfl
                have hk_k_10_12 := S_12.out.cell 3 10 rfl rfl
                have hk_l_0_12 := S_12.out.cell 2 0 rfl rfl
                have hk_l_1_12 := S_12.out.cell 2 1 rfl rfl
                have hk_l_2_12 := S_12.out.cell 2 2 rfl rfl
                have hk_l_3_12 := S_12.out.cell 2 3 rfl rfl
                have hk_l_4_12 := S_12.out.cell 2 4 rfl rfl
                have hk_l_5_12 := S_12.out.cell 2 5 rfl rfl
                have hk_l_6_12 := S_12.out.cell 2 6 rfl rfl
                have hk_l_7_12 := S_12.out.cell 2 7 rfl rfl
                have hk_l_8_12 := S_12.out.cell 2 8 rfl rfl
                have hk_l_9_12 := S_12.out.cell 2 9 rfl rfl
                have hk_l_10_12 := S_12.out.cell 2 10 rfl rfl
                have hk_tot_0_12 := S_12.out.cell 4 0 rfl rfl
                have hk_tot_1_12 := S_12.out.cell 4 1 rfl rfl
                have hk_tot_2_12 := S_12.out.cell 4 2 rfl rfl)
             | (go_at_call_of 32 (Value.agg #[Value.bool V.s,v0,v1])
                go_at_call_of 32 (Value.agg #[Value.bool T.s,t0,t1])
                refine (ratMul_s V T v0 v1 t0 t1 _ (S_12.out.lkA HM.out).p (S_12.out.lkA HM.out).r).mono ?_
                rintro e wy2 ⟨vy2, uy2, rfl, ho, hb⟩
                obtain ⟨Ay2, ny2, cy2, rfl⟩ := (ho.at_ 0 rfl).shape3
                obtain ⟨By2, my2, dy2, rfl⟩ := (ho.at_ 1 rfl).shape3
                rw [HM4.out] at ho ⊢
                have S_13 := Lib.hid (S_12.out.rows ho hb)
                clear S_12 ho hb
                have hk_k_0_13 := S_13.out.cell 3 0 rfl rfl
                have hk_k_1_13 := S_13.out.cell 3 1 rfl rfl
                have hk_k_2_13 := S_13.out.cell 3 2 rfl rfl
                have hk_k_3_13 := S_13.out.cell 3 3 rfl rfl
                have hk_k_4_13 := S_13.out.cell 3 4 rfl rfl
                have hk_k_5_13 := S_13.out.cell 3 5 rfl rfl
                have hk_k_6_13 := S_13.out.cell 3 6 rfl rfl
                have hk_k_7_13 := S_13.out.cell 3 7 rfl rfl
                have hk_k_8_13 := S_13.out.cell 3 8 rfl rfl
                have hk_k_9_13 := S_13.out.cell 3 9 rfl rfl
                have hk_k_10_13 := S_13.out.cell 3 10 rfl rfl
                have hk_l_0_13 := S_13.out.cell 2 0 rfl rfl
                have hk_l_1_13 := S_13.out.cell 2 1 rfl rfl
                have hk_l_2_13 := S_13.out.cell 2 2 rfl rfl
                have hk_l_3_13 := S_13.out.cell 2 3 rfl rfl
                have hk_l_4_13 := S_13.out.cell 2 4 rfl rfl
                have hk_l_5_13 := S_13.out.cell 2 5 rfl rfl
                have hk_l_6_13 := S_13.out.cell 2 6 rfl rfl
                have hk_l_7_13 := S_13.out.cell 2 7 rfl rfl
                have hk_l_8_13 := S_13.out.cell 2 8 rfl rfl
                have hk_l_9_13 := S_13.out.cell 2 9 rfl rfl
                have hk_l_10_13 := S_13.out.cell 2 10 rfl rfl
                have hk_tot_0_13 := S_13.out.cell 4 0 rfl rfl
                have hk_tot_1_13 := S_13.out.cell 4 1 rfl rfl
                have hk_tot_2_13 := S_13.out.cell 4 2 rfl rfl)
             | (go_at_call_of 30 (Value.agg #[Value.bool M3.s,(Value.slice Ay1 ny1 cy1),(Value.slice By1 my1 dy1)])
                refine (ratAdd_s M3 M4 (.slice Ay1 ny1 cy1) (.slice By1 my1 dy1) (.slice Ay2 ny2 cy2) (.slice By2 my2 dy2) _ (S_13.out.fr 1 0 rfl rfl rfl) (S_13.out.fr 0 0 rfl rfl rfl)).mono ?_
                rintro e wy3 ⟨vy3, uy3, rfl, ho, hb⟩
                obtain ⟨Ay3, ny3, cy3, rfl⟩ := (ho.at_ 0 rfl).shape3
                obtain ⟨By3, my3, dy3, rfl⟩ := (ho.at_ 1 rfl).shape3
                rw [HN2.out] at ho ⊢
                have S_14 := Lib.hid (S_13.out.rows ho hb)
                clear S_13 ho hb
                have hk_k_0_14 := S_14.out.cell 3 0 rfl rfl
                have hk_k_1_14 := S_14.out.cell 3 1 rfl rfl
                have hk_k_2_14 := S_14.out.cell 3 2 rfl rfl
                have hk_k_3_14 := S_14.out.cell 3 3 rfl rfl
                have hk_k_4_14 := S_14.out.cell 3 4 rfl rfl
                have hk_k_5_14 := S_14.out.cell 3 5 rfl rfl
                have hk_k_6_14 := S_14.out.cell 3 6 rfl rfl
                have hk_k_7_14 := S_14.out.cell 3 7 rfl rfl
                have hk_k_8_14 := S_14.out.cell 3 8 rfl rfl
                have hk_k_9_14 := S_14.out.cell 3 9 rfl rfl
                have hk_k_10_14 := S_14.out.cell 3 10 rfl rfl
                have hk_l_0_14 := S_14.out.cell 2 0 rfl rfl
                have hk_l_1_14 := S_14.out.cell 2 1 rfl rfl
                have hk_l_2_14 := S_14.out.cell 2 2 rfl rfl
                have hk_l_3_14 := S_14.out.cell 2 3 rfl rfl
                have hk_l_4_14 := S_14.out.cell 2 4 rfl rfl
                have hk_l_5_14 := S_14.out.cell 2 5 rfl rfl
                have hk_l_6_14 := S_14.out.cell 2 6 rfl rfl
                have hk_l_7_14 := S_14.out.cell 2 7 rfl rfl
                have hk_l_8_14 := S_14.out.cell 2 8 rfl rfl
                have hk_l_9_14 := S_14.out.cell 2 9 rfl rfl
                have hk_l_10_14 := S_14.out.cell 2 10 rfl rfl
                have hk_tot_0_14 := S_14.out.cell 4 0 rfl rfl
                have hk_tot_1_14 := S_14.out.cell 4 1 rfl rfl
                have hk_tot_2_14 := S_14.out.cell 4 2 rfl rfl)
             | (go_at_call_of 31 (Value.agg #[Value.bool N2.s,(Value.slice Ay3 ny3 cy3),(Value.slice By3 my3 dy3)])
                refine (ratDiv_s N2 S (.slice Ay3 ny3 cy3) (.slice By3 my3 dy3) (.slice A0 n0 c0) (.slice B0 m0 d0) _ (S_14.out.fr 0 0 rfl rfl rfl) (S_14.out.fr 7 0 rfl rfl rfl)).mono ?_
                rintro e wy4 ⟨vy4, uy4, rfl, ho, hb⟩
                obtain ⟨Ay4, ny4, cy4, rfl⟩ := (ho.at_ 0 rfl).shape3
                obtain ⟨By4, my4, dy4, rfl⟩ := (ho.at_ 1 rfl).shape3
                rw [HY.out] at ho ⊢
                have S_15 := Lib.hid (S_14.out.rows ho hb)
                clear S_14 ho hb
                have hk_k_0_15 := S_15.out.cell 3 0 rfl rfl
                have hk_k_1_15 := S_15.out.cell 3 1 rfl rfl
                have hk_k_2_15 := S_15.out.cell 3 2 rfl rfl
                have hk_k_3_15 := S_15.out.cell 3 3 rfl rfl
                have hk_k_4_15 := S_15.out.cell 3 4 rfl rfl
                have hk_k_5_15 := S_15.out.cell 3 5 rfl rfl
                have hk_k_6_15 := S_15.out.cell 3 6 rfl rfl
                have hk_k_7_15 := S_15.out.cell 3 7 rfl rfl
                have hk_k_8_15 := S_15.out.cell 3 8 rfl rfl
                have hk_k_9_15 := S_15.out.cell 3 9 rfl rfl
                have hk_k_10_15 := S_15.out.cell 3 10 rfl rfl
                have hk_l_0_15 := S_15.out.cell 2 0 rfl rfl
                have hk_l_1_15 := S_15.out.cell 2 1 rfl rfl
                have hk_l_2_15 := S_15.out.cell 2 2 rfl rfl
                have hk_l_3_15 := S_15.out.cell 2 3 rfl rfl
                have hk_l_4_15 := S_15.out.cell 2 4 rfl rfl
                have hk_l_5_15 := S_15.out.cell 2 5 rfl rfl
                have hk_l_6_15 := S_15.out.cell 2 6 rfl rfl
                have hk_l_7_15 := S_15.out.cell 2 7 rfl rfl
                have hk_l_8_15 := S_15.out.cell 2 8 rfl rfl
                have hk_l_9_15 := S_15.out.cell 2 9 rfl rfl
                have hk_l_10_15 := S_15.out.cell 2 10 rfl rfl
                have hk_tot_0_15 := S_15.out.cell 4 0 rfl rfl
                have hk_tot_1_15 := S_15.out.cell 4 1 rfl rfl
                have hk_tot_2_15 := S_15.out.cell 4 2 rfl rfl
                have hk_out_0_15 := S_15.out.cell 5 0 rfl rfl
                have hk_out_0_15f := S_15.out.froz 5 0 rfl rfl
                have hk_out_1_15 := S_15.out.cell 5 1 rfl rfl
                have hk_out_1_15f := S_15.out.froz 5 1 rfl rfl
                have hk_out_2_15 := S_15.out.cell 5 2 rfl rfl
                have hk_out_2_15f := S_15.out.froz 5 2 rfl rfl
                have hk_out_3_15 := S_15.out.cell 5 3 rfl rfl
                have hk_out_3_15f := S_15.out.froz 5 3 rfl rfl
                have hk_out_4_15 := S_15.out.cell 5 4 rfl rfl
                have hk_out_4_15f := S_15.out.froz 5 4 rfl rfl
                have hk_out_5_15 := S_15.out.cell 5 5 rfl rfl
                have hk_out_5_15f := S_15.out.froz 5 5 rfl rfl
                have hk_out_6_15 := S_15.out.cell 5 6 rfl rfl
                have hk_out_6_15f := S_15.out.froz 5 6 rfl rfl
                have hk_out_7_15 := S_15.out.cell 5 7 rfl rfl
                have hk_out_7_15f := S_15.out.froz 5 7 rfl rfl
                have hk_out_8_15 := S_15.out.cell 5 8 rfl rfl
                have hk_out_8_15f := S_15.out.froz 5 8 rfl rfl
                have hk_out_9_15 := S_15.out.cell 5 9 rfl rfl
                have hk_out_9_15f := S_15.out.froz 5 9 rfl rfl
                have hk_out_10_15 := S_15.out.cell 5 10 rfl rfl
                have hk_out_10_15f := S_15.out.froz 5 10 rfl rfl))
         go_upto_region 7 with fail
         have S_16 := Lib.hid (show St w (((wy4.setCell ⟨wb.heap.size,8,none⟩ (.bool Y.s)).setCell ⟨wb.heap.size,9,none⟩ ((.slice Ay4 ny4 cy4))).setCell ⟨wb.heap.size,10,none⟩ ((.slice By4 my4 dy4))) [(w.heap.size + 1 + 1 + 1,[.bool false,.slice none 0 0,.slice none 0 0]),(w.heap.size + 1 + 1,[.int .i64 0,.int .i64 0,.bool false,.slice none 0 0,.slice none 0 0,.bool false,.slice none 0 0,.slice none 0 0,.bool false,.slice none 0 0,.slice none 0 0]),(w.heap.size + 1,[.int .i64 A,.int .i64 B,.bool V.s,v0,v1,.bool U.s,u0,u1,.bool T.s,t0,t1]),(w.heap.size,[.int .i64 A,.int .i64 B,.bool P.s,p0,p1,.bool Q.s,q0,q1,.bool R.s,r0,r1]),(w3.heap.size,[.bool S.s,(.slice A0 n0 c0),(.slice B0 m0 d0)]),(wb.heap.size,[.int .i64 A,.int .i64 B,.bool S.s,(.slice A0 n0 c0),(.slice B0 m0 d0),.bool X.s,(.slice Ax4 nx4 cx4),(.slice Bx4 mx4 dx4),.bool Y.s,(.slice Ay4 ny4 cy4),(.slice By4 my4 dy4)])] [[((.slice Ay4 ny4 cy4),ints Y.xs),((.slice By4 my4 dy4),ints Y.ys)],[((.slice Ay3 ny3 cy3),ints N2.xs),((.slice By3 my3 dy3),ints N2.ys)],[((.slice Ay2 ny2 cy2),ints M4.xs),((.slice By2 my2 dy2),ints M4.ys)],[((.slice Ay1 ny1 cy1),ints M3.xs),((.slice By1 my1 dy1),ints M3.ys)],[((.slice Ax4 nx4 cx4),ints X.xs),((.slice Bx4 mx4 dx4),ints X.ys)],[((.slice Ax3 nx3 cx3),ints N1.xs),((.slice Bx3 mx3 dx3),ints N1.ys)],[((.slice Ax2 nx2 cx2),ints M2.xs),((.slice Bx2 mx2 dx2),ints M2.ys)],[((.slice Ax1 nx1 cx1),ints M1.xs),((.slice Bx1 mx1 dx1),ints M1.ys)],[((.slice A0 n0 c0),ints S.xs),((.slice B0 m0 d0),ints S.ys)]] from (((S_15.out.set 5 8 (.bool Y.s) rfl rfl).set 5 9 ((.slice Ay4 ny4 cy4)) rfl rfl).set 5 10 ((.slice By4 my4 dy4)) rfl rfl))
         clear S_15
         obtain ⟨wg, hwg⟩ : ∃ u, (((wy4.setCell ⟨wb.heap.size, 8, none⟩ (.bool Y.s)).setCell ⟨wb.heap.size, 9, none⟩ ((.slice Ay4 ny4 cy4))).setCell ⟨wb.heap.size, 10, none⟩ ((.slice By4 my4 dy4))) = u := ⟨_, rfl⟩
         rw [hwg] at S_16 ⊢
         clear hwg
         have S_17 := Lib.hid (S_16.out.drop 7)
         clear S_16
         have S_18 := Lib.hid (S_17.out.drop 6)
         clear S_17
         have S_19 := Lib.hid (S_18.out.drop 5)
         clear S_18
         have S_20 := Lib.hid (S_19.out.drop 3)
         clear S_19
         have S_21 := Lib.hid (S_20.out.drop 2)
         clear S_20
         have S_22 := Lib.hid (S_21.out.drop 1)
         clear S_21
         have hk_k_0_22 := S_22.out.cell 3 0 rfl rfl
         have hk_k_1_22 := S_22.out.cell 3 1 rfl rfl
         have hk_k_2_22 := S_22.out.cell 3 2 rfl rfl
         have hk_k_3_22 := S_22.out.cell 3 3 rfl rfl
         have hk_k_4_22 := S_22.out.cell 3 4 rfl rfl
         have hk_k_5_22 := S_22.out.cell 3 5 rfl rfl
         have hk_k_6_22 := S_22.out.cell 3 6 rfl rfl
         have hk_k_7_22 := S_22.out.cell 3 7 rfl rfl
         have hk_k_8_22 := S_22.out.cell 3 8 rfl rfl
         have hk_k_9_22 := S_22.out.cell 3 9 rfl rfl
         have hk_k_10_22 := S_22.out.cell 3 10 rfl rfl
         have hk_l_0_22 := S_22.out.cell 2 0 rfl rfl
         have hk_l_1_22 := S_22.out.cell 2 1 rfl rfl
         have hk_l_2_22 := S_22.out.cell 2 2 rfl rfl
         have hk_l_3_22 := S_22.out.cell 2 3 rfl rfl
         have hk_l_4_22 := S_22.out.cell 2 4 rfl rfl
         have hk_l_5_22 := S_22.out.cell 2 5 rfl rfl
         have hk_l_6_22 := S_22.out.cell 2 6 rfl rfl
         have hk_l_7_22 := S_22.out.cell 2 7 rfl rfl
         have hk_l_8_22 := S_22.out.cell 2 8 rfl rfl
         have hk_l_9_22 := S_22.out.cell 2 9 rfl rfl
         have hk_l_10_22 := S_22.out.cell 2 10 rfl rfl
         have hk_tot_0_22 := S_22.out.cell 4 0 rfl rfl
         have hk_tot_1_22 := S_22.out.cell 4 1 rfl rfl
         have hk_tot_2_22 := S_22.out.cell 4 2 rfl rfl
         go_upto_region 7 with fail
         clear hk_k_0_22 hk_k_1_22 hk_k_2_22 hk_k_3_22 hk_k_4_22 hk_k_5_22 hk_k_6_22 hk_k_7_22 hk_k_8_22 hk_k_9_22 hk_k_10_22 hk_l_0_22 hk_l_1_22 hk_l_2_22 hk_l_3_22 hk_l_4_22 hk_l_5_22 hk_l_6_22 hk_l_7_22 hk_l_8_22 hk_l_9_22 hk_l_10_22 hk_tot_0_22 hk_tot_1_22 hk_tot_2_22
         go_cut [9] (fun ptr wx => ∃ blk Ae3 ne3 ce3 Be3 me3 de3,ptr = .pointer (some ⟨blk,0,none⟩) ∧ St w wx [(w.heap.size + 1 + 1 + 1,[.bool false,.slice none 0 0,.slice none 0 0]),(w.heap.size + 1 + 1,[.int .i64 0,.int .i64 0,.bool false,.slice none 0 0,.slice none 0 0,.bool false,.slice none 0 0,.slice none 0 0,.bool false,.slice none 0 0,.slice none 0 0]),(w.heap.size + 1,[.int .i64 A,.int .i64 B,.bool V.s,v0,v1,.bool U.s,u0,u1,.bool T.s,t0,t1]),(w.heap.size,[.int .i64 A,.int .i64 B,.bool P.s,p0,p1,.bool Q.s,q0,q1,.bool R.s,r0,r1]),(w3.heap.size,[.bool S.s,(.slice A0 n0 c0),(.slice B0 m0 d0)]),(wb.heap.size,[.int .i64 A,.int .i64 B,.bool S.s,(.slice A0 n0 c0),(.slice B0 m0 d0),.bool X.s,(.slice Ax4 nx4 cx4),(.slice Bx4 mx4 dx4),.bool Y.s,(.slice Ay4 ny4 cy4),(.slice By4 my4 dy4)]),(blk,[.bool G.s,(.slice Ae3 ne3 ce3),(.slice Be3 me3 de3)])] [[((.slice Ae3 ne3 ce3),ints G.xs),((.slice Be3 me3 de3),ints G.ys)],[((.slice Ay4 ny4 cy4),ints Y.xs),((.slice By4 my4 dy4),ints Y.ys)],[((.slice Ax4 nx4 cx4),ints X.xs),((.slice Bx4 mx4 dx4),ints X.ys)],[((.slice A0 n0 c0),ints S.xs),((.slice B0 m0 d0),ints S.ys)]])
         case first =>
           have mkS_23 : ∀ (w' : World) (x0_ x1_ x2_ : List Value) (bs' : List (Nat × List Value)) (cs' : List Chunk),St w w' ((w.heap.size + 1 + 1 + 1,x0_) :: (w.heap.size + 1 + 1,x1_) :: (w.heap.size + 1,[.int .i64 A,.int .i64 B,.bool V.s,v0,v1,.bool U.s,u0,u1,.bool T.s,t0,t1]) :: (w.heap.size,[.int .i64 A,.int .i64 B,.bool P.s,p0,p1,.bool Q.s,q0,q1,.bool R.s,r0,r1]) :: (w3.heap.size,[.bool S.s,(.slice A0 n0 c0),(.slice B0 m0 d0)]) :: (wb.heap.size,x2_) :: bs') cs' → w'.cell? ⟨w.heap.size + 1,0,none⟩ = some (.int .i64 A) ∧ w'.cell? ⟨w.heap.size + 1,1,none⟩ = some (.int .i64 B) ∧ w'.cell? ⟨w.heap.size + 1,2,none⟩ = some (.bool V.s) ∧ w'.cell? ⟨w.heap.size + 1,3,none⟩ = some (v0) ∧ w'.cell? ⟨w.heap.size + 1,4,none⟩ = some (v1) ∧ w'.cell? ⟨w.heap.size + 1,5,none⟩ = some (.bool U.s) ∧ w'.cell? ⟨w.heap.size + 1,6,none⟩ = some (u0) ∧ w'.cell? ⟨w.heap.size + 1,7,none⟩ = some (u1) ∧ w'.cell? ⟨w.heap.size + 1,8,none⟩ = some (.bool T.s) ∧ w'.cell? ⟨w.heap.size + 1,9,none⟩ = some (t0) ∧ w'.cell? ⟨w.heap.size + 1,10,none⟩ = some (t1) ∧ w'.cell? ⟨w.heap.size,0,none⟩ = some (.int .i64 A) ∧ w'.cell? ⟨w.heap.size,1,none⟩ = some (.int .i64 B) ∧ w'.cell? ⟨w.heap.size,2,none⟩ = some (.bool P.s) ∧ w'.cell? ⟨w.heap.size,3,none⟩ = some (p0) ∧ w'.cell? ⟨w.heap.size,4,none⟩ = some (p1) ∧ w'.cell? ⟨w.heap.size,5,none⟩ = some (.bool Q.s) ∧ w'.cell? ⟨w.heap.size,6,none⟩ = some (q0) ∧ w'.cell? ⟨w.heap.size,7,none⟩ = some (q1) ∧ w'.cell? ⟨w.heap.size,8,none⟩ = some (.bool R.s) ∧ w'.cell? ⟨w.heap.size,9,none⟩ = some (r0) ∧ w'.cell? ⟨w.heap.size,10,none⟩ = some (r1) ∧ w'.cell? ⟨w3.heap.size,0,none⟩ = some (.bool S.s) ∧ w'.cell? ⟨w3.heap.size,1,none⟩ = some ((.slice A0 n0 c0)) ∧ w'.cell? ⟨w3.heap.size,2,none⟩ = some ((.slice B0 m0 d0)) := fun w' x0_ x1_ x2_ bs' cs' h => ⟨h.cell 2 0 rfl rfl,h.cell 2 1 rfl rfl,h.cell 2 2 rfl rfl,h.cell 2 3 rfl rfl,h.cell 2 4 rfl rfl,h.cell 2 5 rfl rfl,h.cell 2 6 rfl rfl,h.cell 2 7 rfl rfl,h.cell 2 8 rfl rfl,h.cell 2 9 rfl rfl,h.cell 2 10 rfl rfl,h.cell 3 0 rfl rfl,h.cell 3 1 rfl rfl,h.cell 3 2 rfl rfl,h.cell 3 3 rfl rfl,h.cell 3 4 rfl rfl,h.cell 3 5 rfl rfl,h.cell 3 6 rfl rfl,h.cell 3 7 rfl rfl,h.cell 3 8 rfl rfl,h.cell 3 9 rfl rfl,h.cell 3 10 rfl rfl,h.cell 4 0 rfl rfl,h.cell 4 1 rfl rfl,h.cell 4 2 rfl rfl⟩
           refine wp_region_noPanic ?_
           refine wp_region_held_drew (S := (fun w' => w'.cell? ⟨w.heap.size + 1, 0, none⟩ = some (.int .i64 A) ∧ w'.cell? ⟨w.heap.size + 1, 1, none⟩ = some (.int .i64 B) ∧ w'.cell? ⟨w.heap.size + 1, 2, none⟩ = some (.bool V.s) ∧ w'.cell? ⟨w.heap.size + 1, 3, none⟩ = some (v0) ∧ w'.cell? ⟨w.heap.size + 1, 4, none⟩ = some (v1) ∧ w'.cell? ⟨w.heap.size + 1, 5, none⟩ = some (.bool U.s) ∧ w'.cell? ⟨w.heap.size + 1, 6, none⟩ = some (u0) ∧ w'.cell? ⟨w.heap.size + 1, 7, none⟩ = some (u1) ∧ w'.cell? ⟨w.heap.size + 1, 8, none⟩ = some (.bool T.s) ∧ w'.cell? ⟨w.heap.size + 1, 9, none⟩ = some (t0) ∧ w'.cell? ⟨w.heap.size + 1, 10, none⟩ = some (t1) ∧ w'.cell? ⟨w.heap.size, 0, none⟩ = some (.int .i64 A) ∧ w'.cell? ⟨w.heap.size, 1, none⟩ = some (.int .i64 B) ∧ w'.cell? ⟨w.heap.size, 2, none⟩ = some (.bool P.s) ∧ w'.cell? ⟨w.heap.size, 3, none⟩ = some (p0) ∧ w'.cell? ⟨w.heap.size, 4, none⟩ = some (p1) ∧ w'.cell? ⟨w.heap.size, 5, none⟩ = some (.bool Q.s) ∧ w'.cell? ⟨w.heap.size, 6, none⟩ = some (q0) ∧ w'.cell? ⟨w.heap.size, 7, none⟩ = some (q1) ∧ w'.cell? ⟨w.heap.size, 8, none⟩ = some (.bool R.s) ∧ w'.cell? ⟨w.heap.size, 9, none⟩ = some (r0) ∧ w'.cell? ⟨w.heap.size, 10, none⟩ = some (r1) ∧ w'.cell? ⟨w3.heap.size, 0, none⟩ = some (.bool S.s) ∧ w'.cell? ⟨w3.heap.size, 1, none⟩ = some ((.slice A0 n0 c0)) ∧ w'.cell? ⟨w3.heap.size, 2, none⟩ = some ((.slice B0 m0 d0)))) (by kernel_rfl) ?_ (fun hHeld => ?_)
           · exact mkS_23 _ _ _ _ _ _ S_22.out.drew
           refine tkH 0 ?_ ⟨some 73,.fieldAddr 34 (.tmp 2) 2,0,"l06_links.go:44",#[],none⟩ ?_ ?_
           rotate_left
           · intro w9 hSw; (try dsimp only at hSw); go_simp; try with_reducible rfl
           try simp only [pm, s0, sS]
           refine tkH 1 ?_ ⟨some 74,.load 32 (.tmp 73),32,"l06_links.go:44",#[⟨0,.data⟩],none⟩ ?_ ?_
           rotate_left
           · intro w9 hSw; (try dsimp only at hSw); go_simp; try with_reducible rfl
           try simp only [pm, s0, sS]
           refine tkH 2 ?_ ⟨some 75,.fieldAddr 34 (.tmp 3) 2,0,"l06_links.go:44",#[],none⟩ ?_ ?_
           rotate_left
           · intro w9 hSw; (try dsimp only at hSw); go_simp; try with_reducible rfl
           try simp only [pm, s0, sS]
           refine tkH 3 ?_ ⟨some 76,.load 32 (.tmp 75),32,"l06_links.go:44",#[⟨2,.data⟩],none⟩ ?_ ?_
           rotate_left
           · intro w9 hSw; (try dsimp only at hSw); go_simp; try with_reducible rfl
           try simp only [pm, s0, sS]
           refine tkH 5 ?_ ⟨some 78,.load 32 (.tmp 7),32,"l06_links.go:44",#[],none⟩ ?_ ?_
           rotate_left
           · intro w9 hSw; (try dsimp only at hSw); go_simp; try with_reducible rfl
           try simp only [pm, s0, sS]
           refine tkH 7 ?_ ⟨some 80,.fieldAddr 34 (.tmp 2) 3,0,"l06_links.go:44",#[],none⟩ ?_ ?_
           rotate_left
           · intro w9 hSw; (try dsimp only at hSw); go_simp; try with_reducible rfl
           try simp only [pm, s0, sS]
           refine tkH 8 ?_ ⟨some 81,.load 32 (.tmp 80),32,"l06_links.go:44",#[⟨7,.data⟩],none⟩ ?_ ?_
           rotate_left
           · intro w9 hSw; (try dsimp only at hSw); go_simp; try with_reducible rfl
           try simp only [pm, s0, sS]
           refine tkH 9 ?_ ⟨some 82,.fieldAddr 34 (.tmp 3) 3,0,"l06_links.go:44",#[],none⟩ ?_ ?_
           rotate_left
           · intro w9 hSw; (try dsimp only at hSw); go_simp; try with_reducible rfl
           try simp only [pm, s0, sS]
           refine tkH 10 ?_ ⟨some 83,.load 32 (.tmp 82),32,"l06_links.go:44",#[⟨9,.data⟩],none⟩ ?_ ?_
           rotate_left
           · intro w9 hSw; (try dsimp only at hSw); go_simp; try with_reducible rfl
           try simp only [pm, s0, sS]
           refine tkH 12 ?_ ⟨some 85,.fieldAddr 34 (.tmp 2) 4,0,"l06_links.go:44",#[],none⟩ ?_ ?_
           rotate_left
           · intro w9 hSw; (try dsimp only at hSw); go_simp; try with_reducible rfl
           try simp only [pm, s0, sS]
           refine tkH 13 ?_ ⟨some 86,.load 32 (.tmp 85),32,"l06_links.go:44",#[⟨12,.data⟩],none⟩ ?_ ?_
           rotate_left
           · intro w9 hSw; (try dsimp only at hSw); go_simp; try with_reducible rfl
           try simp only [pm, s0, sS]
           refine tkH 14 ?_ ⟨some 87,.fieldAddr 34 (.tmp 3) 4,0,"l06_links.go:44",#[],none⟩ ?_ ?_
           rotate_left
           · intro w9 hSw; (try dsimp only at hSw); go_simp; try with_reducible rfl
           try simp only [pm, s0, sS]
           refine tkH 15 ?_ ⟨some 88,.load 32 (.tmp 87),32,"l06_links.go:44",#[⟨14,.data⟩],none⟩ ?_ ?_
           rotate_left
           · intro w9 hSw; (try dsimp only at hSw); go_simp; try with_reducible rfl
           try simp only [pm, s0, sS]
           refine wpAnyH_ready (rs := [4, 19]) (by kernel_rfl) (by simp) ?_
           refine AllReadyH.cons (o := ⟨some 77,.call { callee := .value (.func 32),args := #[.tmp 74,.tmp 76],argTypes := #[32,32] },32,"l06_links.go:44",#[⟨1,.data⟩,⟨3,.data⟩],none⟩) rfl (fun K hK => ?_) ?_
           · go_simp
             go_at_call_of 32 (Value.agg #[Value.bool P.s,p0,p1])
             refine (ratMul_s P V p0 p1 v0 v1 _ (S_22.out.drew.lkA HL.out).p (S_22.out.drew.lkA HM.out).p).mono ?_
             rintro e wf1 ⟨ve1, ue1, rfl, ho, hb⟩
             obtain ⟨Ae1, ne1, ce1, rfl⟩ := (ho.at_ 0 rfl).shape3
             obtain ⟨Be1, me1, de1, rfl⟩ := (ho.at_ 1 rfl).shape3
             rw [HW1.out] at ho ⊢
             have S_23 := Lib.hid (S_22.out.drew.rows ho hb)
             clear S_22 ho hb
             refine hK.out _ _ (mkS_23 _ _ _ _ _ _ S_23.out) (fun hHeld4 => ?_)
             clear hK K
             try simp only [pm, s0, sS]
             refine wpAnyH_ready (rs := [6, 19]) (by kernel_rfl) (by simp) ?_
             refine AllReadyH.cons (o := ⟨some 79,.call { callee := .value (.func 31),args := #[.tmp 77,.tmp 78],argTypes := #[32,32] },32,"l06_links.go:44",#[⟨4,.data⟩,⟨5,.data⟩,⟨4,.chain⟩],none⟩) rfl (fun K hK => ?_) ?_
             · go_simp
               go_at_call 31
               refine (ratDiv_s W1 S (.slice Ae1 ne1 ce1) (.slice Be1 me1 de1) (.slice A0 n0 c0) (.slice B0 m0 d0) _ (S_23.out.fr 0 0 rfl rfl rfl) (S_23.out.fr 3 0 rfl rfl rfl)).mono ?_
               rintro e wf2 ⟨ve2, ue2, rfl, ho, hb⟩
               obtain ⟨Ae2, ne2, ce2, rfl⟩ := (ho.at_ 0 rfl).shape3
               obtain ⟨Be2, me2, de2, rfl⟩ := (ho.at_ 1 rfl).shape3
               rw [HW2.out] at ho ⊢
               have S_24 := Lib.hid (S_23.out.rows ho hb)
               clear S_23 ho hb
               refine hK.out _ _ (mkS_23 _ _ _ _ _ _ S_24.out) (fun hHeld6 => ?_)
               clear hK K
               try simp only [pm, s0, sS]
               refine wpAnyH_ready (rs := [11, 19]) (by kernel_rfl) (by simp) ?_
               refine AllReadyH.cons (o := ⟨some 84,.call { callee := .value (.func 34),args := #[.tmp 81,.tmp 83],argTypes := #[32,32] },32,"l06_links.go:44",#[⟨8,.data⟩,⟨10,.data⟩,⟨6,.chain⟩],none⟩) rfl (fun K hK => ?_) ?_
               · go_simp
                 go_at_call_of 34 (Value.agg #[Value.bool Q.s,q0,q1])
                 refine (ratSub_s Q U q0 q1 u0 u1 _ (S_24.out.lkA HL.out).q (S_24.out.lkA HM.out).q).mono ?_
                 rintro e wz1 ⟨vz1, uz1, rfl, ho, hb⟩
                 obtain ⟨Az1, nz1, cz1, rfl⟩ := (ho.at_ 0 rfl).shape3
                 obtain ⟨Bz1, mz1, dz1, rfl⟩ := (ho.at_ 1 rfl).shape3
                 rw [HD1.out] at ho ⊢
                 have S_25 := Lib.hid (S_24.out.rows ho hb)
                 clear S_24 ho hb
                 refine hK.out _ _ (mkS_23 _ _ _ _ _ _ S_25.out) (fun hHeld11 => ?_)
                 clear hK K
                 try simp only [pm, s0, sS]
                 refine wpAnyH_ready (rs := [16, 19]) (by kernel_rfl) (by simp) ?_
                 refine AllReadyH.cons (o := ⟨some 89,.call { callee := .value (.func 34),args := #[.tmp 86,.tmp 88],argTypes := #[32,32] },32,"l06_links.go:44",#[⟨13,.data⟩,⟨15,.data⟩,⟨11,.chain⟩],none⟩) rfl (fun K hK => ?_) ?_
                 · go_simp
                   go_at_call_of 34 (Value.agg #[Value.bool R.s,r0,r1])
                   refine (ratSub_s R T r0 r1 t0 t1 _ (S_25.out.lkA HL.out).r (S_25.out.lkA HM.out).r).mono ?_
                   rintro e wz2 ⟨vz2, uz2, rfl, ho, hb⟩
                   obtain ⟨Az2, nz2, cz2, rfl⟩ := (ho.at_ 0 rfl).shape3
                   obtain ⟨Bz2, mz2, dz2, rfl⟩ := (ho.at_ 1 rfl).shape3
                   rw [HD2.out] at ho ⊢
                   have S_26 := Lib.hid (S_25.out.rows ho hb)
                   clear S_25 ho hb
                   refine hK.out _ _ (mkS_23 _ _ _ _ _ _ S_26.out) (fun hHeld16 => ?_)
                   clear hK K
                   try simp only [pm, s0, sS]
                   refine wpAnyH_ready (rs := [17, 19]) (by kernel_rfl) (by simp) ?_
                   refine AllReadyH.cons (o := ⟨some 90,.call { callee := .value (.func 33),args := #[.tmp 84,.tmp 89],argTypes := #[32,32] },32,"l06_links.go:44",#[⟨11,.data⟩,⟨16,.data⟩,⟨16,.chain⟩],none⟩) rfl (fun K hK => ?_) ?_
                   · go_simp
                     go_at_call 33
                     refine (l06Squares_f D1 D2 (.slice Az1 nz1 cz1) (.slice Bz1 mz1 dz1) (.slice Az2 nz2 cz2) (.slice Bz2 mz2 dz2) _ (S_26.out.fr 1 0 rfl rfl rfl) (S_26.out.fr 0 0 rfl rfl rfl)).mono ?_
                     rintro e wz3 ⟨vz3, uz3, rfl, ho, hb⟩
                     obtain ⟨Az3, nz3, cz3, rfl⟩ := (ho.at_ 0 rfl).shape3
                     obtain ⟨Bz3, mz3, dz3, rfl⟩ := (ho.at_ 1 rfl).shape3
                     rw [HH.out] at ho ⊢
                     have S_27 := Lib.hid (S_26.out.rows ho hb)
                     clear S_26 ho hb
                     refine hK.out _ _ (mkS_23 _ _ _ _ _ _ S_27.out) (fun hHeld17 => ?_)
                     clear hK K
                     try simp only [pm, s0, sS]
                     refine wpAnyH_ready (rs := [18, 19]) (by kernel_rfl) (by simp) ?_
                     refine AllReadyH.cons (o := ⟨some 91,.call { callee := .value (.func 32),args := #[.tmp 79,.tmp 90],argTypes := #[32,32] },32,"l06_links.go:44",#[⟨6,.data⟩,⟨17,.data⟩,⟨17,.chain⟩],none⟩) rfl (fun K hK => ?_) ?_
                     · go_simp
                       go_at_call_of 32 (Value.agg #[Value.bool W2.s,(Value.slice Ae2 ne2 ce2),(Value.slice Be2 me2 de2)])
                       refine (ratMul_s W2 H (.slice Ae2 ne2 ce2) (.slice Be2 me2 de2) (.slice Az3 nz3 cz3) (.slice Bz3 mz3 dz3) _ (S_27.out.fr 3 0 rfl rfl rfl) (S_27.out.fr 0 0 rfl rfl rfl)).mono ?_
                       rintro e wf3 ⟨ve3, ue3, rfl, ho, hb⟩
                       obtain ⟨Ae3, ne3, ce3, rfl⟩ := (ho.at_ 0 rfl).shape3
                       obtain ⟨Be3, me3, de3, rfl⟩ := (ho.at_ 1 rfl).shape3
                       rw [HG.out] at ho ⊢
                       have S_28 := Lib.hid (S_27.out.rows ho hb)
                       clear S_27 ho hb
                       refine hK.out _ _ (mkS_23 _ _ _ _ _ _ S_28.out) (fun hHeld18 => ?_)
                       clear hK K
                       try simp only [pm, s0, sS]
                       refine wpAnyH_ready (rs := [19]) (by kernel_rfl) (by simp) ?_
                       refine AllReadyH.cons (o := ⟨some 9,.alloc 32,0,"l06_links.go:44",#[],none⟩) rfl (fun K hK => ?_) AllReadyH.nil
                       go_simp
                       have S_29 := Lib.hid (S_28.out.allocE [.bool false, .slice none 0 0, .slice none 0 0] 32)
                       clear S_28
                       refine hK.out _ _ (mkS_23 _ _ _ _ _ _ S_29.out) (fun hHeld19 => ?_)
                       clear hK K
                       try simp only [pm, s0, sS]
                       refine wpAnyH_ready (rs := [20]) (by kernel_rfl) (by simp) ?_
                       refine AllReadyH.cons (o := ⟨none,.store 32 (.tmp 9) (.tmp 91),0,"l06_links.go:44",#[⟨19,.data⟩,⟨18,.data⟩,⟨18,.chain⟩,⟨0,.phase⟩,⟨1,.phase⟩,⟨2,.phase⟩,⟨3,.phase⟩,⟨4,.phase⟩,⟨5,.phase⟩,⟨6,.phase⟩,⟨7,.phase⟩,⟨8,.phase⟩,⟨9,.phase⟩,⟨10,.phase⟩,⟨11,.phase⟩,⟨12,.phase⟩,⟨13,.phase⟩,⟨14,.phase⟩,⟨15,.phase⟩,⟨16,.phase⟩,⟨17,.phase⟩,⟨18,.phase⟩,⟨19,.phase⟩],none⟩) rfl (fun K hK => ?_) AllReadyH.nil
                       rw [if_pos (by rfl)]
                       refine wp_store_mid _ _ _ rfl _ _ (List.toArray [.bool G.s, (.slice Ae3 ne3 ce3), (.slice Be3 me3 de3)]) rfl rfl (S_29.out.there_ 6 rfl rfl) (size_rat) (all_oneCell_toArray (cs := [.bool G.s, (.slice Ae3 ne3 ce3), (.slice Be3 me3 de3)]) (List.all_eq_true.mp rfl)) ?_
                       simp only [Act.put]
                       have S_30 := Lib.hid (S_29.out.setKit 6 [.bool G.s, (.slice Ae3 ne3 ce3), (.slice Be3 me3 de3)] rfl rfl)
                       clear S_29
                       refine hK.out _ _ (mkS_23 _ _ _ _ _ _ S_30.out) (fun hHeld20 => ?_)
                       clear hK K
                       try simp only [pm, s0, sS]
                       refine wpAnyH_done (by kernel_rfl) ?_ _
                       refine NoPanic.normal ?_
                       go_wp2_with fail
                       go_meet
                       refine ⟨_, Ae3, ne3, ce3, Be3, me3, de3, rfl, ?_⟩
                       exact (((((S_30.out.drop 5).drop 4).drop 3).drop 2).drop 1)
                     refine AllReadyH.cons (o := ⟨some 9,.alloc 32,0,"l06_links.go:44",#[],none⟩) rfl (fun K hK => ?_) ?_
                     · go_simp
                       have S_28 := Lib.hid (S_27.out.allocE [.bool false, .slice none 0 0, .slice none 0 0] 32)
                       clear S_27
                       refine hK.out _ _ (mkS_23 _ _ _ _ _ _ S_28.out) (fun hHeld19 => ?_)
                       clear hK K
                       try simp only [pm, s0, sS]
                       refine wpAnyH_ready (rs := [18]) (by kernel_rfl) (by simp) ?_
                       refine AllReadyH.cons (o := ⟨some 91,.call { callee := .value (.func 32),args := #[.tmp 79,.tmp 90],argTypes := #[32,32] },32,"l06_links.go:44",#[⟨6,.data⟩,⟨17,.data⟩,⟨17,.chain⟩],none⟩) rfl (fun K hK => ?_) AllReadyH.nil
                       go_simp
                       go_at_call_of 32 (Value.agg #[Value.bool W2.s,(Value.slice Ae2 ne2 ce2),(Value.slice Be2 me2 de2)])
                       refine (ratMul_s W2 H (.slice Ae2 ne2 ce2) (.slice Be2 me2 de2) (.slice Az3 nz3 cz3) (.slice Bz3 mz3 dz3) _ (S_28.out.fr 3 0 rfl rfl rfl) (S_28.out.fr 0 0 rfl rfl rfl)).mono ?_
                       rintro e wf3 ⟨ve3, ue3, rfl, ho, hb⟩
                       obtain ⟨Ae3, ne3, ce3, rfl⟩ := (ho.at_ 0 rfl).shape3
                       obtain ⟨Be3, me3, de3, rfl⟩ := (ho.at_ 1 rfl).shape3
                       rw [HG.out] at ho ⊢
                       have S_29 := Lib.hid (S_28.out.rows ho hb)
                       clear S_28 ho hb
                       refine hK.out _ _ (mkS_23 _ _ _ _ _ _ S_29.out) (fun hHeld18 => ?_)
                       clear hK K
                       try simp only [pm, s0, sS]
                       refine wpAnyH_ready (rs := [20]) (by kernel_rfl) (by simp) ?_
                       refine AllReadyH.cons (o := ⟨none,.store 32 (.tmp 9) (.tmp 91),0,"l06_links.go:44",#[⟨19,.data⟩,⟨18,.data⟩,⟨18,.chain⟩,⟨0,.phase⟩,⟨1,.phase⟩,⟨2,.phase⟩,⟨3,.phase⟩,⟨4,.phase⟩,⟨5,.phase⟩,⟨6,.phase⟩,⟨7,.phase⟩,⟨8,.phase⟩,⟨9,.phase⟩,⟨10,.phase⟩,⟨11,.phase⟩,⟨12,.phase⟩,⟨13,.phase⟩,⟨14,.phase⟩,⟨15,.phase⟩,⟨16,.phase⟩,⟨17,.phase⟩,⟨18,.phase⟩,⟨19,.phase⟩],none⟩) rfl (fun K hK => ?_) AllReadyH.nil
                       rw [if_pos (by rfl)]
                       refine wp_store_mid _ _ _ rfl _ _ (List.toArray [.bool G.s, (.slice Ae3 ne3 ce3), (.slice Be3 me3 de3)]) rfl rfl (S_29.out.there_ 6 rfl rfl) (size_rat) (all_oneCell_toArray (cs := [.bool G.s, (.slice Ae3 ne3 ce3), (.slice Be3 me3 de3)]) (List.all_eq_true.mp rfl)) ?_
                       simp only [Act.put]
                       have S_30 := Lib.hid (S_29.out.setKit 6 [.bool G.s, (.slice Ae3 ne3 ce3), (.slice Be3 me3 de3)] rfl rfl)
                       clear S_29
                       refine hK.out _ _ (mkS_23 _ _ _ _ _ _ S_30.out) (fun hHeld20 => ?_)
                       clear hK K
                       try simp only [pm, s0, sS]
                       refine wpAnyH_done (by kernel_rfl) ?_ _
                       refine NoPanic.normal ?_
                       go_wp2_with fail
                       go_meet
                       refine ⟨_, Ae3, ne3, ce3, Be3, me3, de3, rfl, ?_⟩
                       exact (((((S_30.out.drop 5).drop 4).drop 3).drop 2).drop 1)
                     exact AllReadyH.nil
                   refine AllReadyH.cons (o := ⟨some 9,.alloc 32,0,"l06_links.go:44",#[],none⟩) rfl (fun K hK => ?_) ?_
                   · go_simp
                     have S_27 := Lib.hid (S_26.out.allocE [.bool false, .slice none 0 0, .slice none 0 0] 32)
                     clear S_26
                     refine hK.out _ _ (mkS_23 _ _ _ _ _ _ S_27.out) (fun hHeld19 => ?_)
                     clear hK K
                     try simp only [pm, s0, sS]
                     refine wpAnyH_ready (rs := [17]) (by kernel_rfl) (by simp) ?_
                     refine AllReadyH.cons (o := ⟨some 90,.call { callee := .value (.func 33),args := #[.tmp 84,.tmp 89],argTypes := #[32,32] },32,"l06_links.go:44",#[⟨11,.data⟩,⟨16,.data⟩,⟨16,.chain⟩],none⟩) rfl (fun K hK => ?_) AllReadyH.nil
                     go_simp
                     go_at_call 33
                     refine (l06Squares_f D1 D2 (.slice Az1 nz1 cz1) (.slice Bz1 mz1 dz1) (.slice Az2 nz2 cz2) (.slice Bz2 mz2 dz2) _ (S_27.out.fr 1 0 rfl rfl rfl) (S_27.out.fr 0 0 rfl rfl rfl)).mono ?_
                     rintro e wz3 ⟨vz3, uz3, rfl, ho, hb⟩
                     obtain ⟨Az3, nz3, cz3, rfl⟩ := (ho.at_ 0 rfl).shape3
                     obtain ⟨Bz3, mz3, dz3, rfl⟩ := (ho.at_ 1 rfl).shape3
                     rw [HH.out] at ho ⊢
                     have S_28 := Lib.hid (S_27.out.rows ho hb)
                     clear S_27 ho hb
                     refine hK.out _ _ (mkS_23 _ _ _ _ _ _ S_28.out) (fun hHeld17 => ?_)
                     clear hK K
                     try simp only [pm, s0, sS]
                     refine wpAnyH_ready (rs := [18]) (by kernel_rfl) (by simp) ?_
                     refine AllReadyH.cons (o := ⟨some 91,.call { callee := .value (.func 32),args := #[.tmp 79,.tmp 90],argTypes := #[32,32] },32,"l06_links.go:44",#[⟨6,.data⟩,⟨17,.data⟩,⟨17,.chain⟩],none⟩) rfl (fun K hK => ?_) AllReadyH.nil
                     go_simp
                     go_at_call_of 32 (Value.agg #[Value.bool W2.s,(Value.slice Ae2 ne2 ce2),(Value.slice Be2 me2 de2)])
                     refine (ratMul_s W2 H (.slice Ae2 ne2 ce2) (.slice Be2 me2 de2) (.slice Az3 nz3 cz3) (.slice Bz3 mz3 dz3) _ (S_28.out.fr 3 0 rfl rfl rfl) (S_28.out.fr 0 0 rfl rfl rfl)).mono ?_
                     rintro e wf3 ⟨ve3, ue3, rfl, ho, hb⟩
                     obtain ⟨Ae3, ne3, ce3, rfl⟩ := (ho.at_ 0 rfl).shape3
                     obtain ⟨Be3, me3, de3, rfl⟩ := (ho.at_ 1 rfl).shape3
                     rw [HG.out] at ho ⊢
                     have S_29 := Lib.hid (S_28.out.rows ho hb)
                     clear S_28 ho hb
                     refine hK.out _ _ (mkS_23 _ _ _ _ _ _ S_29.out) (fun hHeld18 => ?_)
                     clear hK K
                     try simp only [pm, s0, sS]
                     refine wpAnyH_ready (rs := [20]) (by kernel_rfl) (by simp) ?_
                     refine AllReadyH.cons (o := ⟨none,.store 32 (.tmp 9) (.tmp 91),0,"l06_links.go:44",#[⟨19,.data⟩,⟨18,.data⟩,⟨18,.chain⟩,⟨0,.phase⟩,⟨1,.phase⟩,⟨2,.phase⟩,⟨3,.phase⟩,⟨4,.phase⟩,⟨5,.phase⟩,⟨6,.phase⟩,⟨7,.phase⟩,⟨8,.phase⟩,⟨9,.phase⟩,⟨10,.phase⟩,⟨11,.phase⟩,⟨12,.phase⟩,⟨13,.phase⟩,⟨14,.phase⟩,⟨15,.phase⟩,⟨16,.phase⟩,⟨17,.phase⟩,⟨18,.phase⟩,⟨19,.phase⟩],none⟩) rfl (fun K hK => ?_) AllReadyH.nil
                     rw [if_pos (by rfl)]
                     refine wp_store_mid _ _ _ rfl _ _ (List.toArray [.bool G.s, (.slice Ae3 ne3 ce3), (.slice Be3 me3 de3)]) rfl rfl (S_29.out.there_ 6 rfl rfl) (size_rat) (all_oneCell_toArray (cs := [.bool G.s, (.slice Ae3 ne3 ce3), (.slice Be3 me3 de3)]) (List.all_eq_true.mp rfl)) ?_
                     simp only [Act.put]
                     have S_30 := Lib.hid (S_29.out.setKit 6 [.bool G.s, (.slice Ae3 ne3 ce3), (.slice Be3 me3 de3)] rfl rfl)
                     clear S_29
                     refine hK.out _ _ (mkS_23 _ _ _ _ _ _ S_30.out) (fun hHeld20 => ?_)
                     clear hK K
                     try simp only [pm, s0, sS]
                     refine wpAnyH_done (by kernel_rfl) ?_ _
                     refine NoPanic.normal ?_
                     go_wp2_with fail
                     go_meet
                     refine ⟨_, Ae3, ne3, ce3, Be3, me3, de3, rfl, ?_⟩
                     exact (((((S_30.out.drop 5).drop 4).drop 3).drop 2).drop 1)
                   exact AllReadyH.nil
                 refine AllReadyH.cons (o := ⟨some 9,.alloc 32,0,"l06_links.go:44",#[],none⟩) rfl (fun K hK => ?_) ?_
                 · go_simp
                   have S_26 := Lib.hid (S_25.out.allocE [.bool false, .slice none 0 0, .slice none 0 0] 32)
                   clear S_25
                   refine hK.out _ _ (mkS_23 _ _ _ _ _ _ S_26.out) (fun hHeld19 => ?_)
                   clear hK K
                   try simp only [pm, s0, sS]
                   refine wpAnyH_ready (rs := [16]) (by kernel_rfl) (by simp) ?_
                   refine AllReadyH.cons (o := ⟨some 89,.call { callee := .value (.func 34),args := #[.tmp 86,.tmp 88],argTypes := #[32,32] },32,"l06_links.go:44",#[⟨13,.data⟩,⟨15,.data⟩,⟨11,.chain⟩],none⟩) rfl (fun K hK => ?_) AllReadyH.nil
                   go_simp
                   go_at_call_of 34 (Value.agg #[Value.bool R.s,r0,r1])
                   refine (ratSub_s R T r0 r1 t0 t1 _ (S_26.out.lkA HL.out).r (S_26.out.lkA HM.out).r).mono ?_
                   rintro e wz2 ⟨vz2, uz2, rfl, ho, hb⟩
                   obtain ⟨Az2, nz2, cz2, rfl⟩ := (ho.at_ 0 rfl).shape3
                   obtain ⟨Bz2, mz2, dz2, rfl⟩ := (ho.at_ 1 rfl).shape3
                   rw [HD2.out] at ho ⊢
                   have S_27 := Lib.hid (S_26.out.rows ho hb)
                   clear S_26 ho hb
                   refine hK.out _ _ (mkS_23 _ _ _ _ _ _ S_27.out) (fun hHeld16 => ?_)
                   clear hK K
                   try simp only [pm, s0, sS]
                   refine wpAnyH_ready (rs := [17]) (by kernel_rfl) (by simp) ?_
                   refine AllReadyH.cons (o := ⟨some 90,.call { callee := .value (.func 33),args := #[.tmp 84,.tmp 89],argTypes := #[32,32] },32,"l06_links.go:44",#[⟨11,.data⟩,⟨16,.data⟩,⟨16,.chain⟩],none⟩) rfl (fun K hK => ?_) AllReadyH.nil
                   go_simp
                   go_at_call 33
                   refine (l06Squares_f D1 D2 (.slice Az1 nz1 cz1) (.slice Bz1 mz1 dz1) (.slice Az2 nz2 cz2) (.slice Bz2 mz2 dz2) _ (S_27.out.fr 1 0 rfl rfl rfl) (S_27.out.fr 0 0 rfl rfl rfl)).mono ?_
                   rintro e wz3 ⟨vz3, uz3, rfl, ho, hb⟩
                   obtain ⟨Az3, nz3, cz3, rfl⟩ := (ho.at_ 0 rfl).shape3
                   obtain ⟨Bz3, mz3, dz3, rfl⟩ := (ho.at_ 1 rfl).shape3
                   rw [HH.out] at ho ⊢
                   have S_28 := Lib.hid (S_27.out.rows ho hb)
                   clear S_27 ho hb
                   refine hK.out _ _ (mkS_23 _ _ _ _ _ _ S_28.out) (fun hHeld17 => ?_)
                   clear hK K
                   try simp only [pm, s0, sS]
                   refine wpAnyH_ready (rs := [18]) (by kernel_rfl) (by simp) ?_
                   refine AllReadyH.cons (o := ⟨some 91,.call { callee := .value (.func 32),args := #[.tmp 79,.tmp 90],argTypes := #[32,32] },32,"l06_links.go:44",#[⟨6,.data⟩,⟨17,.data⟩,⟨17,.chain⟩],none⟩) rfl (fun K hK => ?_) AllReadyH.nil
                   go_simp
                   go_at_call_of 32 (Value.agg #[Value.bool W2.s,(Value.slice Ae2 ne2 ce2),(Value.slice Be2 me2 de2)])
                   refine (ratMul_s W2 H (.slice Ae2 ne2 ce2) (.slice Be2 me2 de2) (.slice Az3 nz3 cz3) (.slice Bz3 mz3 dz3) _ (S_28.out.fr 3 0 rfl rfl rfl) (S_28.out.fr 0 0 rfl rfl rfl)).mono ?_
                   rintro e wf3 ⟨ve3, ue3, rfl, ho, hb⟩
                   obtain ⟨Ae3, ne3, ce3, rfl⟩ := (ho.at_ 0 rfl).shape3
                   obtain ⟨Be3, me3, de3, rfl⟩ := (ho.at_ 1 rfl).shape3
                   rw [HG.out] at ho ⊢
                   have S_29 := Lib.hid (S_28.out.rows ho hb)
                   clear S_28 ho hb
                   refine hK.out _ _ (mkS_23 _ _ _ _ _ _ S_29.out) (fun hHeld18 => ?_)
                   clear hK K
                   try simp only [pm, s0, sS]
                   refine wpAnyH_ready (rs := [20]) (by kernel_rfl) (by simp) ?_
                   refine AllReadyH.cons (o := ⟨none,.store 32 (.tmp 9) (.tmp 91),0,"l06_links.go:44",#[⟨19,.data⟩,⟨18,.data⟩,⟨18,.chain⟩,⟨0,.phase⟩,⟨1,.phase⟩,⟨2,.phase⟩,⟨3,.phase⟩,⟨4,.phase⟩,⟨5,.phase⟩,⟨6,.phase⟩,⟨7,.phase⟩,⟨8,.phase⟩,⟨9,.phase⟩,⟨10,.phase⟩,⟨11,.phase⟩,⟨12,.phase⟩,⟨13,.phase⟩,⟨14,.phase⟩,⟨15,.phase⟩,⟨16,.phase⟩,⟨17,.phase⟩,⟨18,.phase⟩,⟨19,.phase⟩],none⟩) rfl (fun K hK => ?_) AllReadyH.nil
                   rw [if_pos (by rfl)]
                   refine wp_store_mid _ _ _ rfl _ _ (List.toArray [.bool G.s, (.slice Ae3 ne3 ce3), (.slice Be3 me3 de3)]) rfl rfl (S_29.out.there_ 6 rfl rfl) (size_rat) (all_oneCell_toArray (cs := [.bool G.s, (.slice Ae3 ne3 ce3), (.slice Be3 me3 de3)]) (List.all_eq_true.mp rfl)) ?_
                   simp only [Act.put]
                   have S_30 := Lib.hid (S_29.out.setKit 6 [.bool G.s, (.slice Ae3 ne3 ce3), (.slice Be3 me3 de3)] rfl rfl)
                   clear S_29
                   refine hK.out _ _ (mkS_23 _ _ _ _ _ _ S_30.out) (fun hHeld20 => ?_)
                   clear hK K
                   try simp only [pm, s0, sS]
                   refine wpAnyH_done (by kernel_rfl) ?_ _
                   refine NoPanic.normal ?_
                   go_wp2_with fail
                   go_meet
                   refine ⟨_, Ae3, ne3, ce3, Be3, me3, de3, rfl, ?_⟩
                   exact (((((S_30.out.drop 5).drop 4).drop 3).drop 2).drop 1)
                 exact AllReadyH.nil
               refine AllReadyH.cons (o := ⟨some 9,.alloc 32,0,"l06_links.go:44",#[],none⟩) rfl (fun K hK => ?_) ?_
               · go_simp
                 have S_25 := Lib.hid (S_24.out.allocE [.bool false, .slice none 0 0, .slice none 0 0] 32)
                 clear S_24
                 refine hK.out _ _ (mkS_23 _ _ _ _ _ _ S_25.out) (fun hHeld19 => ?_)
                 clear hK K
                 try simp only [pm, s0, sS]
                 refine wpAnyH_ready (rs := [11]) (by kernel_rfl) (by simp) ?_
                 refine AllReadyH.cons (o := ⟨some 84,.call { callee := .value (.func 34),args := #[.tmp 81,.tmp 83],argTypes := #[32,32] },32,"l06_links.go:44",#[⟨8,.data⟩,⟨10,.data⟩,⟨6,.chain⟩],none⟩) rfl (fun K hK => ?_) AllReadyH.nil
                 go_simp
                 go_at_call_of 34 (Value.agg #[Value.bool Q.s,q0,q1])
                 refine (ratSub_s Q U q0 q1 u0 u1 _ (S_25.out.lkA HL.out).q (S_25.out.lkA HM.out).q).mono ?_
                 rintro e wz1 ⟨vz1, uz1, rfl, ho, hb⟩
                 obtain ⟨Az1, nz1, cz1, rfl⟩ := (ho.at_ 0 rfl).shape3
                 obtain ⟨Bz1, mz1, dz1, rfl⟩ := (ho.at_ 1 rfl).shape3
                 rw [HD1.out] at ho ⊢
                 have S_26 := Lib.hid (S_25.out.rows ho hb)
                 clear S_25 ho hb
                 refine hK.out _ _ (mkS_23 _ _ _ _ _ _ S_26.out) (fun hHeld11 => ?_)
                 clear hK K
                 try simp only [pm, s0, sS]
                 refine wpAnyH_ready (rs := [16]) (by kernel_rfl) (by simp) ?_
                 refine AllReadyH.cons (o := ⟨some 89,.call { callee := .value (.func 34),args := #[.tmp 86,.tmp 88],argTypes := #[32,32] },32,"l06_links.go:44",#[⟨13,.data⟩,⟨15,.data⟩,⟨11,.chain⟩],none⟩) rfl (fun K hK => ?_) AllReadyH.nil
                 go_simp
                 go_at_call_of 34 (Value.agg #[Value.bool R.s,r0,r1])
                 refine (ratSub_s R T r0 r1 t0 t1 _ (S_26.out.lkA HL.out).r (S_26.out.lkA HM.out).r).mono ?_
                 rintro e wz2 ⟨vz2, uz2, rfl, ho, hb⟩
                 obtain ⟨Az2, nz2, cz2, rfl⟩ := (ho.at_ 0 rfl).shape3
                 obtain ⟨Bz2, mz2, dz2, rfl⟩ := (ho.at_ 1 rfl).shape3
                 rw [HD2.out] at ho ⊢
                 have S_27 := Lib.hid (S_26.out.rows ho hb)
                 clear S_26 ho hb
                 refine hK.out _ _ (mkS_23 _ _ _ _ _ _ S_27.out) (fun hHeld16 => ?_)
                 clear hK K
                 try simp only [pm, s0, sS]
                 refine wpAnyH_ready (rs := [17]) (by kernel_rfl) (by simp) ?_
                 refine AllReadyH.cons (o := ⟨some 90,.call { callee := .value (.func 33),args := #[.tmp 84,.tmp 89],argTypes := #[32,32] },32,"l06_links.go:44",#[⟨11,.data⟩,⟨16,.data⟩,⟨16,.chain⟩],none⟩) rfl (fun K hK => ?_) AllReadyH.nil
                 go_simp
                 go_at_call 33
                 refine (l06Squares_f D1 D2 (.slice Az1 nz1 cz1) (.slice Bz1 mz1 dz1) (.slice Az2 nz2 cz2) (.slice Bz2 mz2 dz2) _ (S_27.out.fr 1 0 rfl rfl rfl) (S_27.out.fr 0 0 rfl rfl rfl)).mono ?_
                 rintro e wz3 ⟨vz3, uz3, rfl, ho, hb⟩
                 obtain ⟨Az3, nz3, cz3, rfl⟩ := (ho.at_ 0 rfl).shape3
                 obtain ⟨Bz3, mz3, dz3, rfl⟩ := (ho.at_ 1 rfl).shape3
                 rw [HH.out] at ho ⊢
                 have S_28 := Lib.hid (S_27.out.rows ho hb)
                 clear S_27 ho hb
                 refine hK.out _ _ (mkS_23 _ _ _ _ _ _ S_28.out) (fun hHeld17 => ?_)
                 clear hK K
                 try simp only [pm, s0, sS]
                 refine wpAnyH_ready (rs := [18]) (by kernel_rfl) (by simp) ?_
                 refine AllReadyH.cons (o := ⟨some 91,.call { callee := .value (.func 32),args := #[.tmp 79,.tmp 90],argTypes := #[32,32] },32,"l06_links.go:44",#[⟨6,.data⟩,⟨17,.data⟩,⟨17,.chain⟩],none⟩) rfl (fun K hK => ?_) AllReadyH.nil
                 go_simp
                 go_at_call_of 32 (Value.agg #[Value.bool W2.s,(Value.slice Ae2 ne2 ce2),(Value.slice Be2 me2 de2)])
                 refine (ratMul_s W2 H (.slice Ae2 ne2 ce2) (.slice Be2 me2 de2) (.slice Az3 nz3 cz3) (.slice Bz3 mz3 dz3) _ (S_28.out.fr 3 0 rfl rfl rfl) (S_28.out.fr 0 0 rfl rfl rfl)).mono ?_
                 rintro e wf3 ⟨ve3, ue3, rfl, ho, hb⟩
                 obtain ⟨Ae3, ne3, ce3, rfl⟩ := (ho.at_ 0 rfl).shape3
                 obtain ⟨Be3, me3, de3, rfl⟩ := (ho.at_ 1 rfl).shape3
                 rw [HG.out] at ho ⊢
                 have S_29 := Lib.hid (S_28.out.rows ho hb)
                 clear S_28 ho hb
                 refine hK.out _ _ (mkS_23 _ _ _ _ _ _ S_29.out) (fun hHeld18 => ?_)
                 clear hK K
                 try simp only [pm, s0, sS]
                 refine wpAnyH_ready (rs := [20]) (by kernel_rfl) (by simp) ?_
                 refine AllReadyH.cons (o := ⟨none,.store 32 (.tmp 9) (.tmp 91),0,"l06_links.go:44",#[⟨19,.data⟩,⟨18,.data⟩,⟨18,.chain⟩,⟨0,.phase⟩,⟨1,.phase⟩,⟨2,.phase⟩,⟨3,.phase⟩,⟨4,.phase⟩,⟨5,.phase⟩,⟨6,.phase⟩,⟨7,.phase⟩,⟨8,.phase⟩,⟨9,.phase⟩,⟨10,.phase⟩,⟨11,.phase⟩,⟨12,.phase⟩,⟨13,.phase⟩,⟨14,.phase⟩,⟨15,.phase⟩,⟨16,.phase⟩,⟨17,.phase⟩,⟨18,.phase⟩,⟨19,.phase⟩],none⟩) rfl (fun K hK => ?_) AllReadyH.nil
                 rw [if_pos (by rfl)]
                 refine wp_store_mid _ _ _ rfl _ _ (List.toArray [.bool G.s, (.slice Ae3 ne3 ce3), (.slice Be3 me3 de3)]) rfl rfl (S_29.out.there_ 6 rfl rfl) (size_rat) (all_oneCell_toArray (cs := [.bool G.s, (.slice Ae3 ne3 ce3), (.slice Be3 me3 de3)]) (List.all_eq_true.mp rfl)) ?_
                 simp only [Act.put]
                 have S_30 := Lib.hid (S_29.out.setKit 6 [.bool G.s, (.slice Ae3 ne3 ce3), (.slice Be3 me3 de3)] rfl rfl)
                 clear S_29
                 refine hK.out _ _ (mkS_23 _ _ _ _ _ _ S_30.out) (fun hHeld20 => ?_)
                 clear hK K
                 try simp only [pm, s0, sS]
                 refine wpAnyH_done (by kernel_rfl) ?_ _
                 refine NoPanic.normal ?_
                 go_wp2_with fail
                 go_meet
                 refine ⟨_, Ae3, ne3, ce3, Be3, me3, de3, rfl, ?_⟩
                 exact (((((S_30.out.drop 5).drop 4).drop 3).drop 2).drop 1)
               exact AllReadyH.nil
             refine AllReadyH.cons (o := ⟨some 9,.alloc 32,0,"l06_links.go:44",#[],none⟩) rfl (fun K hK => ?_) ?_
             · go_simp
               have S_24 := Lib.hid (S_23.out.allocE [.bool false, .slice none 0 0, .slice none 0 0] 32)
               clear S_23
               refine hK.out _ _ (mkS_23 _ _ _ _ _ _ S_24.out) (fun hHeld19 => ?_)
               clear hK K
               try simp only [pm, s0, sS]
               refine wpAnyH_ready (rs := [6]) (by kernel_rfl) (by simp) ?_
               refine AllReadyH.cons (o := ⟨some 79,.call { callee := .value (.func 31),args := #[.tmp 77,.tmp 78],argTypes := #[32,32] },32,"l06_links.go:44",#[⟨4,.data⟩,⟨5,.data⟩,⟨4,.chain⟩],none⟩) rfl (fun K hK => ?_) AllReadyH.nil
               go_simp
               go_at_call 31
               refine (ratDiv_s W1 S (.slice Ae1 ne1 ce1) (.slice Be1 me1 de1) (.slice A0 n0 c0) (.slice B0 m0 d0) _ (S_24.out.fr 0 0 rfl rfl rfl) (S_24.out.fr 3 0 rfl rfl rfl)).mono ?_
               rintro e wf2 ⟨ve2, ue2, rfl, ho, hb⟩
               obtain ⟨Ae2, ne2, ce2, rfl⟩ := (ho.at_ 0 rfl).shape3
               obtain ⟨Be2, me2, de2, rfl⟩ := (ho.at_ 1 rfl).shape3
               rw [HW2.out] at ho ⊢
               have S_25 := Lib.hid (S_24.out.rows ho hb)
               clear S_24 ho hb
               refine hK.out _ _ (mkS_23 _ _ _ _ _ _ S_25.out) (fun hHeld6 => ?_)
               clear hK K
               try simp only [pm, s0, sS]
               refine wpAnyH_ready (rs := [11]) (by kernel_rfl) (by simp) ?_
               refine AllReadyH.cons (o := ⟨some 84,.call { callee := .value (.func 34),args := #[.tmp 81,.tmp 83],argTypes := #[32,32] },32,"l06_links.go:44",#[⟨8,.data⟩,⟨10,.data⟩,⟨6,.chain⟩],none⟩) rfl (fun K hK => ?_) AllReadyH.nil
               go_simp
               go_at_call_of 34 (Value.agg #[Value.bool Q.s,q0,q1])
               refine (ratSub_s Q U q0 q1 u0 u1 _ (S_25.out.lkA HL.out).q (S_25.out.lkA HM.out).q).mono ?_
               rintro e wz1 ⟨vz1, uz1, rfl, ho, hb⟩
               obtain ⟨Az1, nz1, cz1, rfl⟩ := (ho.at_ 0 rfl).shape3
               obtain ⟨Bz1, mz1, dz1, rfl⟩ := (ho.at_ 1 rfl).shape3
               rw [HD1.out] at ho ⊢
               have S_26 := Lib.hid (S_25.out.rows ho hb)
               clear S_25 ho hb
               refine hK.out _ _ (mkS_23 _ _ _ _ _ _ S_26.out) (fun hHeld11 => ?_)
               clear hK K
               try simp only [pm, s0, sS]
               refine wpAnyH_ready (rs := [16]) (by kernel_rfl) (by simp) ?_
               refine AllReadyH.cons (o := ⟨some 89,.call { callee := .value (.func 34),args := #[.tmp 86,.tmp 88],argTypes := #[32,32] },32,"l06_links.go:44",#[⟨13,.data⟩,⟨15,.data⟩,⟨11,.chain⟩],none⟩) rfl (fun K hK => ?_) AllReadyH.nil
               go_simp
               go_at_call_of 34 (Value.agg #[Value.bool R.s,r0,r1])
               refine (ratSub_s R T r0 r1 t0 t1 _ (S_26.out.lkA HL.out).r (S_26.out.lkA HM.out).r).mono ?_
               rintro e wz2 ⟨vz2, uz2, rfl, ho, hb⟩
               obtain ⟨Az2, nz2, cz2, rfl⟩ := (ho.at_ 0 rfl).shape3
               obtain ⟨Bz2, mz2, dz2, rfl⟩ := (ho.at_ 1 rfl).shape3
               rw [HD2.out] at ho ⊢
               have S_27 := Lib.hid (S_26.out.rows ho hb)
               clear S_26 ho hb
               refine hK.out _ _ (mkS_23 _ _ _ _ _ _ S_27.out) (fun hHeld16 => ?_)
               clear hK K
               try simp only [pm, s0, sS]
               refine wpAnyH_ready (rs := [17]) (by kernel_rfl) (by simp) ?_
               refine AllReadyH.cons (o := ⟨some 90,.call { callee := .value (.func 33),args := #[.tmp 84,.tmp 89],argTypes := #[32,32] },32,"l06_links.go:44",#[⟨11,.data⟩,⟨16,.data⟩,⟨16,.chain⟩],none⟩) rfl (fun K hK => ?_) AllReadyH.nil
               go_simp
               go_at_call 33
               refine (l06Squares_f D1 D2 (.slice Az1 nz1 cz1) (.slice Bz1 mz1 dz1) (.slice Az2 nz2 cz2) (.slice Bz2 mz2 dz2) _ (S_27.out.fr 1 0 rfl rfl rfl) (S_27.out.fr 0 0 rfl rfl rfl)).mono ?_
               rintro e wz3 ⟨vz3, uz3, rfl, ho, hb⟩
               obtain ⟨Az3, nz3, cz3, rfl⟩ := (ho.at_ 0 rfl).shape3
               obtain ⟨Bz3, mz3, dz3, rfl⟩ := (ho.at_ 1 rfl).shape3
               rw [HH.out] at ho ⊢
               have S_28 := Lib.hid (S_27.out.rows ho hb)
               clear S_27 ho hb
               refine hK.out _ _ (mkS_23 _ _ _ _ _ _ S_28.out) (fun hHeld17 => ?_)
               clear hK K
               try simp only [pm, s0, sS]
               refine wpAnyH_ready (rs := [18]) (by kernel_rfl) (by simp) ?_
               refine AllReadyH.cons (o := ⟨some 91,.call { callee := .value (.func 32),args := #[.tmp 79,.tmp 90],argTypes := #[32,32] },32,"l06_links.go:44",#[⟨6,.data⟩,⟨17,.data⟩,⟨17,.chain⟩],none⟩) rfl (fun K hK => ?_) AllReadyH.nil
               go_simp
               go_at_call_of 32 (Value.agg #[Value.bool W2.s,(Value.slice Ae2 ne2 ce2),(Value.slice Be2 me2 de2)])
               refine (ratMul_s W2 H (.slice Ae2 ne2 ce2) (.slice Be2 me2 de2) (.slice Az3 nz3 cz3) (.slice Bz3 mz3 dz3) _ (S_28.out.fr 3 0 rfl rfl rfl) (S_28.out.fr 0 0 rfl rfl rfl)).mono ?_
               rintro e wf3 ⟨ve3, ue3, rfl, ho, hb⟩
               obtain ⟨Ae3, ne3, ce3, rfl⟩ := (ho.at_ 0 rfl).shape3
               obtain ⟨Be3, me3, de3, rfl⟩ := (ho.at_ 1 rfl).shape3
               rw [HG.out] at ho ⊢
               have S_29 := Lib.hid (S_28.out.rows ho hb)
               clear S_28 ho hb
               refine hK.out _ _ (mkS_23 _ _ _ _ _ _ S_29.out) (fun hHeld18 => ?_)
               clear hK K
               try simp only [pm, s0, sS]
               refine wpAnyH_ready (rs := [20]) (by kernel_rfl) (by simp) ?_
               refine AllReadyH.cons (o := ⟨none,.store 32 (.tmp 9) (.tmp 91),0,"l06_links.go:44",#[⟨19,.data⟩,⟨18,.data⟩,⟨18,.chain⟩,⟨0,.phase⟩,⟨1,.phase⟩,⟨2,.phase⟩,⟨3,.phase⟩,⟨4,.phase⟩,⟨5,.phase⟩,⟨6,.phase⟩,⟨7,.phase⟩,⟨8,.phase⟩,⟨9,.phase⟩,⟨10,.phase⟩,⟨11,.phase⟩,⟨12,.phase⟩,⟨13,.phase⟩,⟨14,.phase⟩,⟨15,.phase⟩,⟨16,.phase⟩,⟨17,.phase⟩,⟨18,.phase⟩,⟨19,.phase⟩],none⟩) rfl (fun K hK => ?_) AllReadyH.nil
               rw [if_pos (by rfl)]
               refine wp_store_mid _ _ _ rfl _ _ (List.toArray [.bool G.s, (.slice Ae3 ne3 ce3), (.slice Be3 me3 de3)]) rfl rfl (S_29.out.there_ 6 rfl rfl) (size_rat) (all_oneCell_toArray (cs := [.bool G.s, (.slice Ae3 ne3 ce3), (.slice Be3 me3 de3)]) (List.all_eq_true.mp rfl)) ?_
               simp only [Act.put]
               have S_30 := Lib.hid (S_29.out.setKit 6 [.bool G.s, (.slice Ae3 ne3 ce3), (.slice Be3 me3 de3)] rfl rfl)
               clear S_29
               refine hK.out _ _ (mkS_23 _ _ _ _ _ _ S_30.out) (fun hHeld20 => ?_)
               clear hK K
               try simp only [pm, s0, sS]
               refine wpAnyH_done (by kernel_rfl) ?_ _
               refine NoPanic.normal ?_
               go_wp2_with fail
               go_meet
               refine ⟨_, Ae3, ne3, ce3, Be3, me3, de3, rfl, ?_⟩
               exact (((((S_30.out.drop 5).drop 4).drop 3).drop 2).drop 1)
             exact AllReadyH.nil
           refine AllReadyH.cons (o := ⟨some 9,.alloc 32,0,"l06_links.go:44",#[],none⟩) rfl (fun K hK => ?_) ?_
           · go_simp
             have S_23 := Lib.hid (S_22.out.drew.allocE [.bool false, .slice none 0 0, .slice none 0 0] 32)
             clear S_22
             refine hK.out _ _ (mkS_23 _ _ _ _ _ _ S_23.out) (fun hHeld19 => ?_)
             clear hK K
             try simp only [pm, s0, sS]
             refine wpAnyH_ready (rs := [4]) (by kernel_rfl) (by simp) ?_
             refine AllReadyH.cons (o := ⟨some 77,.call { callee := .value (.func 32),args := #[.tmp 74,.tmp 76],argTypes := #[32,32] },32,"l06_links.go:44",#[⟨1,.data⟩,⟨3,.data⟩],none⟩) rfl (fun K hK => ?_) AllReadyH.nil
             go_simp
             go_at_call_of 32 (Value.agg #[Value.bool P.s,p0,p1])
             refine (ratMul_s P V p0 p1 v0 v1 _ (S_23.out.lkA HL.out).p (S_23.out.lkA HM.out).p).mono ?_
             rintro e wf1 ⟨ve1, ue1, rfl, ho, hb⟩
             obtain ⟨Ae1, ne1, ce1, rfl⟩ := (ho.at_ 0 rfl).shape3
             obtain ⟨Be1, me1, de1, rfl⟩ := (ho.at_ 1 rfl).shape3
             rw [HW1.out] at ho ⊢
             have S_24 := Lib.hid (S_23.out.rows ho hb)
             clear S_23 ho hb
             refine hK.out _ _ (mkS_23 _ _ _ _ _ _ S_24.out) (fun hHeld4 => ?_)
             clear hK K
             try simp only [pm, s0, sS]
             refine wpAnyH_ready (rs := [6]) (by kernel_rfl) (by simp) ?_
             refine AllReadyH.cons (o := ⟨some 79,.call { callee := .value (.func 31),args := #[.tmp 77,.tmp 78],argTypes := #[32,32] },32,"l06_links.go:44",#[⟨4,.data⟩,⟨5,.data⟩,⟨4,.chain⟩],none⟩) rfl (fun K hK => ?_) AllReadyH.nil
             go_simp
             go_at_call 31
             refine (ratDiv_s W1 S (.slice Ae1 ne1 ce1) (.slice Be1 me1 de1) (.slice A0 n0 c0) (.slice B0 m0 d0) _ (S_24.out.fr 0 0 rfl rfl rfl) (S_24.out.fr 3 0 rfl rfl rfl)).mono ?_
             rintro e wf2 ⟨ve2, ue2, rfl, ho, hb⟩
             obtain ⟨Ae2, ne2, ce2, rfl⟩ := (ho.at_ 0 rfl).shape3
             obtain ⟨Be2, me2, de2, rfl⟩ := (ho.at_ 1 rfl).shape3
             rw [HW2.out] at ho ⊢
             have S_25 := Lib.hid (S_24.out.rows ho hb)
             clear S_24 ho hb
             refine hK.out _ _ (mkS_23 _ _ _ _ _ _ S_25.out) (fun hHeld6 => ?_)
             clear hK K
             try simp only [pm, s0, sS]
             refine wpAnyH_ready (rs := [11]) (by kernel_rfl) (by simp) ?_
             refine AllReadyH.cons (o := ⟨some 84,.call { callee := .value (.func 34),args := #[.tmp 81,.tmp 83],argTypes := #[32,32] },32,"l06_links.go:44",#[⟨8,.data⟩,⟨10,.data⟩,⟨6,.chain⟩],none⟩) rfl (fun K hK => ?_) AllReadyH.nil
             go_simp
             go_at_call_of 34 (Value.agg #[Value.bool Q.s,q0,q1])
             refine (ratSub_s Q U q0 q1 u0 u1 _ (S_25.out.lkA HL.out).q (S_25.out.lkA HM.out).q).mono ?_
             rintro e wz1 ⟨vz1, uz1, rfl, ho, hb⟩
             obtain ⟨Az1, nz1, cz1, rfl⟩ := (ho.at_ 0 rfl).shape3
             obtain ⟨Bz1, mz1, dz1, rfl⟩ := (ho.at_ 1 rfl).shape3
             rw [HD1.out] at ho ⊢
             have S_26 := Lib.hid (S_25.out.rows ho hb)
             clear S_25 ho hb
             refine hK.out _ _ (mkS_23 _ _ _ _ _ _ S_26.out) (fun hHeld11 => ?_)
             clear hK K
             try simp only [pm, s0, sS]
             refine wpAnyH_ready (rs := [16]) (by kernel_rfl) (by simp) ?_
             refine AllReadyH.cons (o := ⟨some 89,.call { callee := .value (.func 34),args := #[.tmp 86,.tmp 88],argTypes := #[32,32] },32,"l06_links.go:44",#[⟨13,.data⟩,⟨15,.data⟩,⟨11,.chain⟩],none⟩) rfl (fun K hK => ?_) AllReadyH.nil
             go_simp
             go_at_call_of 34 (Value.agg #[Value.bool R.s,r0,r1])
             refine (ratSub_s R T r0 r1 t0 t1 _ (S_26.out.lkA HL.out).r (S_26.out.lkA HM.out).r).mono ?_
             rintro e wz2 ⟨vz2, uz2, rfl, ho, hb⟩
             obtain ⟨Az2, nz2, cz2, rfl⟩ := (ho.at_ 0 rfl).shape3
             obtain ⟨Bz2, mz2, dz2, rfl⟩ := (ho.at_ 1 rfl).shape3
             rw [HD2.out] at ho ⊢
             have S_27 := Lib.hid (S_26.out.rows ho hb)
             clear S_26 ho hb
             refine hK.out _ _ (mkS_23 _ _ _ _ _ _ S_27.out) (fun hHeld16 => ?_)
             clear hK K
             try simp only [pm, s0, sS]
             refine wpAnyH_ready (rs := [17]) (by kernel_rfl) (by simp) ?_
             refine AllReadyH.cons (o := ⟨some 90,.call { callee := .value (.func 33),args := #[.tmp 84,.tmp 89],argTypes := #[32,32] },32,"l06_links.go:44",#[⟨11,.data⟩,⟨16,.data⟩,⟨16,.chain⟩],none⟩) rfl (fun K hK => ?_) AllReadyH.nil
             go_simp
             go_at_call 33
             refine (l06Squares_f D1 D2 (.slice Az1 nz1 cz1) (.slice Bz1 mz1 dz1) (.slice Az2 nz2 cz2) (.slice Bz2 mz2 dz2) _ (S_27.out.fr 1 0 rfl rfl rfl) (S_27.out.fr 0 0 rfl rfl rfl)).mono ?_
             rintro e wz3 ⟨vz3, uz3, rfl, ho, hb⟩
             obtain ⟨Az3, nz3, cz3, rfl⟩ := (ho.at_ 0 rfl).shape3
             obtain ⟨Bz3, mz3, dz3, rfl⟩ := (ho.at_ 1 rfl).shape3
             rw [HH.out] at ho ⊢
             have S_28 := Lib.hid (S_27.out.rows ho hb)
             clear S_27 ho hb
             refine hK.out _ _ (mkS_23 _ _ _ _ _ _ S_28.out) (fun hHeld17 => ?_)
             clear hK K
             try simp only [pm, s0, sS]
             refine wpAnyH_ready (rs := [18]) (by kernel_rfl) (by simp) ?_
             refine AllReadyH.cons (o := ⟨some 91,.call { callee := .value (.func 32),args := #[.tmp 79,.tmp 90],argTypes := #[32,32] },32,"l06_links.go:44",#[⟨6,.data⟩,⟨17,.data⟩,⟨17,.chain⟩],none⟩) rfl (fun K hK => ?_) AllReadyH.nil
             go_simp
             go_at_call_of 32 (Value.agg #[Value.bool W2.s,(Value.slice Ae2 ne2 ce2),(Value.slice Be2 me2 de2)])
             refine (ratMul_s W2 H (.slice Ae2 ne2 ce2) (.slice Be2 me2 de2) (.slice Az3 nz3 cz3) (.slice Bz3 mz3 dz3) _ (S_28.out.fr 3 0 rfl rfl rfl) (S_28.out.fr 0 0 rfl rfl rfl)).mono ?_
             rintro e wf3 ⟨ve3, ue3, rfl, ho, hb⟩
             obtain ⟨Ae3, ne3, ce3, rfl⟩ := (ho.at_ 0 rfl).shape3
             obtain ⟨Be3, me3, de3, rfl⟩ := (ho.at_ 1 rfl).shape3
             rw [HG.out] at ho ⊢
             have S_29 := Lib.hid (S_28.out.rows ho hb)
             clear S_28 ho hb
             refine hK.out _ _ (mkS_23 _ _ _ _ _ _ S_29.out) (fun hHeld18 => ?_)
             clear hK K
             try simp only [pm, s0, sS]
             refine wpAnyH_ready (rs := [20]) (by kernel_rfl) (by simp) ?_
             refine AllReadyH.cons (o := ⟨none,.store 32 (.tmp 9) (.tmp 91),0,"l06_links.go:44",#[⟨19,.data⟩,⟨18,.data⟩,⟨18,.chain⟩,⟨0,.phase⟩,⟨1,.phase⟩,⟨2,.phase⟩,⟨3,.phase⟩,⟨4,.phase⟩,⟨5,.phase⟩,⟨6,.phase⟩,⟨7,.phase⟩,⟨8,.phase⟩,⟨9,.phase⟩,⟨10,.phase⟩,⟨11,.phase⟩,⟨12,.phase⟩,⟨13,.phase⟩,⟨14,.phase⟩,⟨15,.phase⟩,⟨16,.phase⟩,⟨17,.phase⟩,⟨18,.phase⟩,⟨19,.phase⟩],none⟩) rfl (fun K hK => ?_) AllReadyH.nil
             rw [if_pos (by rfl)]
             refine wp_store_mid _ _ _ rfl _ _ (List.toArray [.bool G.s, (.slice Ae3 ne3 ce3), (.slice Be3 me3 de3)]) rfl rfl (S_29.out.there_ 6 rfl rfl) (size_rat) (all_oneCell_toArray (cs := [.bool G.s, (.slice Ae3 ne3 ce3), (.slice Be3 me3 de3)]) (List.all_eq_true.mp rfl)) ?_
             simp only [Act.put]
             have S_30 := Lib.hid (S_29.out.setKit 6 [.bool G.s, (.slice Ae3 ne3 ce3), (.slice Be3 me3 de3)] rfl rfl)
             clear S_29
             refine hK.out _ _ (mkS_23 _ _ _ _ _ _ S_30.out) (fun hHeld20 => ?_)
             clear hK K
             try simp only [pm, s0, sS]
             refine wpAnyH_done (by kernel_rfl) ?_ _
             refine NoPanic.normal ?_
             go_wp2_with fail
             go_meet
             refine ⟨_, Ae3, ne3, ce3, Be3, me3, de3, rfl, ?_⟩
             exact (((((S_30.out.drop 5).drop 4).drop 3).drop 2).drop 1)
           exact AllReadyH.nil
         obtain ⟨b_en, Ae3, ne3, ce3, Be3, me3, de3, rfl, hst⟩ := hcut
         have S_73 := Lib.hid hst
         clear hst S_22
         have hne_rb_en := S_73.out.ne 0 6 rfl rfl (by decide)
         have hne_en_rb := S_73.out.ne 6 0 rfl rfl (by decide)
         have hne_ra_en := S_73.out.ne 1 6 rfl rfl (by decide)
         have hne_en_ra := S_73.out.ne 6 1 rfl rfl (by decide)
         have hne_l_en := S_73.out.ne 2 6 rfl rfl (by decide)
         have hne_en_l := S_73.out.ne 6 2 rfl rfl (by decide)
         have hne_k_en := S_73.out.ne 3 6 rfl rfl (by decide)
         have hne_en_k := S_73.out.ne 6 3 rfl rfl (by decide)
         have hne_tot_en := S_73.out.ne 4 6 rfl rfl (by decide)
         have hne_en_tot := S_73.out.ne 6 4 rfl rfl (by decide)
         have hne_out_en := S_73.out.ne 5 6 rfl rfl (by decide)
         have hne_en_out := S_73.out.ne 6 5 rfl rfl (by decide)
         obtain ⟨wk, hwk⟩ : ∃ u, wc = u := ⟨_, rfl⟩
         rw [hwk] at S_73 ⊢
         clear hwk
         clear hne_rb_l hne_rb_k hne_rb_tot hne_ra_l hne_ra_k hne_ra_tot hne_l_rb hne_l_ra hne_l_k hne_l_tot hne_l_out hne_l_en hne_k_rb hne_k_ra hne_k_l hne_k_tot hne_k_out hne_k_en hne_tot_rb hne_tot_ra hne_tot_l hne_tot_k hne_tot_out hne_tot_en hne_out_l hne_out_k hne_out_tot hne_en_l hne_en_k hne_en_tot
         have S_74 := Lib.hid (S_73.out.dropBox 2)
         clear S_73
         have S_75 := Lib.hid (S_74.out.dropBox 2)
         clear S_74
         have S_76 := Lib.hid (S_75.out.dropBox 2)
         clear S_75
         have S_77 := Lib.hid (show St w wk [(w.heap.size + 1 + 1 + 1,[.bool false,.slice none 0 0,.slice none 0 0]),(w.heap.size + 1 + 1,[.int .i64 0,.int .i64 0,.bool false,.slice none 0 0,.slice none 0 0,.bool false,.slice none 0 0,.slice none 0 0,.bool false,.slice none 0 0,.slice none 0 0]),(wb.heap.size,[.int .i64 A,.int .i64 B,.bool S.s,(.slice A0 n0 c0),(.slice B0 m0 d0),.bool X.s,(.slice Ax4 nx4 cx4),(.slice Bx4 mx4 dx4),.bool Y.s,(.slice Ay4 ny4 cy4),(.slice By4 my4 dy4)]),(b_en,[.bool G.s,(.slice Ae3 ne3 ce3),(.slice Be3 me3 de3)])] [[((.slice Ae3 ne3 ce3),ints G.xs),((.slice Be3 me3 de3),ints G.ys)],[((.slice Ay4 ny4 cy4),ints Y.xs),((.slice By4 my4 dy4),ints Y.ys)],[((.slice Ax4 nx4 cx4),ints X.xs),((.slice Bx4 mx4 dx4),ints X.ys)],[((.slice A0 n0 c0),ints S.xs),((.slice B0 m0 d0),ints S.ys)]] from S_76.out)
         clear S_76
         have hk_out_0_77 := S_77.out.cell 2 0 rfl rfl
         have hk_out_1_77 := S_77.out.cell 2 1 rfl rfl
         have hk_out_2_77 := S_77.out.cell 2 2 rfl rfl
         have hk_out_3_77 := S_77.out.cell 2 3 rfl rfl
         have hk_out_4_77 := S_77.out.cell 2 4 rfl rfl
         have hk_out_5_77 := S_77.out.cell 2 5 rfl rfl
         have hk_out_6_77 := S_77.out.cell 2 6 rfl rfl
         have hk_out_7_77 := S_77.out.cell 2 7 rfl rfl
         have hk_out_8_77 := S_77.out.cell 2 8 rfl rfl
         have hk_out_9_77 := S_77.out.cell 2 9 rfl rfl
         have hk_out_10_77 := S_77.out.cell 2 10 rfl rfl
         go_wp2_with fail
         refine (isValidLink_s A B S X Y (.slice A0 n0 c0) (.slice B0 m0 d0) (.slice Ax4 nx4 cx4) (.slice Bx4 mx4 dx4) (.slice Ay4 ny4 cy4) (.slice By4 my4 dy4) _ ⟨(S_77.out.fr 3 0 rfl rfl rfl), (S_77.out.fr 2 0 rfl rfl rfl), (S_77.out.fr 1 0 rfl rfl rfl)⟩).mono ?_
         rintro e wh ⟨rfl, hb⟩
         have S_78 := Lib.hid (S_77.out.call hb)
         clear S_77
         clear hb
         by_cases h9 : okK A B S X Y = true
         · rw [h9]
           have H9 := Lib.hid h9
           clear h9
           clear hk_out_0_77 hk_out_1_77 hk_out_2_77 hk_out_3_77 hk_out_4_77 hk_out_5_77 hk_out_6_77 hk_out_7_77 hk_out_8_77 hk_out_9_77 hk_out_10_77
           have hk_en_0_78 := S_78.out.cell 3 0 rfl rfl
           have hk_en_1_78 := S_78.out.cell 3 1 rfl rfl
           have hk_en_2_78 := S_78.out.cell 3 2 rfl rfl
           go_wp2_with fail
           refine (ratOk_s G (.slice Ae3 ne3 ce3) (.slice Be3 me3 de3) _ (S_78.out.fr 0 0 rfl rfl rfl)).mono ?_
           rintro e wi ⟨rfl, hb⟩
           have S_79 := Lib.hid (S_78.out.call hb)
           clear S_78
           clear hb
           by_cases h8 : G.ok = true
           · have HY := Lib.hid (show ok = true by rw [← HOK.out, H9.out, h8]; rfl)
             rw [h8]
             clear h8
             clear hk_en_0_78 hk_en_1_78 hk_en_2_78
             have hk_out_0_79 := S_79.out.cell 2 0 rfl rfl
             have hk_out_1_79 := S_79.out.cell 2 1 rfl rfl
             have hk_out_2_79 := S_79.out.cell 2 2 rfl rfl
             have hk_out_3_79 := S_79.out.cell 2 3 rfl rfl
             have hk_out_4_79 := S_79.out.cell 2 4 rfl rfl
             have hk_out_5_79 := S_79.out.cell 2 5 rfl rfl
             have hk_out_6_79 := S_79.out.cell 2 6 rfl rfl
             have hk_out_7_79 := S_79.out.cell 2 7 rfl rfl
             have hk_out_8_79 := S_79.out.cell 2 8 rfl rfl
             have hk_out_9_79 := S_79.out.cell 2 9 rfl rfl
             have hk_out_10_79 := S_79.out.cell 2 10 rfl rfl
             have hk_en_0_79 := S_79.out.cell 3 0 rfl rfl
             have hk_en_1_79 := S_79.out.cell 3 1 rfl rfl
             have hk_en_2_79 := S_79.out.cell 3 2 rfl rfl
             have hk_ra_0_79 := S_79.out.cell 1 0 rfl rfl
             have hk_ra_0_79f := S_79.out.froz 1 0 rfl rfl
             have hk_ra_1_79 := S_79.out.cell 1 1 rfl rfl
             have hk_ra_1_79f := S_79.out.froz 1 1 rfl rfl
             have hk_ra_2_79 := S_79.out.cell 1 2 rfl rfl
             have hk_ra_2_79f := S_79.out.froz 1 2 rfl rfl
             have hk_ra_3_79 := S_79.out.cell 1 3 rfl rfl
             have hk_ra_3_79f := S_79.out.froz 1 3 rfl rfl
             have hk_ra_4_79 := S_79.out.cell 1 4 rfl rfl
             have hk_ra_4_79f := S_79.out.froz 1 4 rfl rfl
             have hk_ra_5_79 := S_79.out.cell 1 5 rfl rfl
             have hk_ra_5_79f := S_79.out.froz 1 5 rfl rfl
             have hk_ra_6_79 := S_79.out.cell 1 6 rfl rfl
             have hk_ra_6_79f := S_79.out.froz 1 6 rfl rfl
             have hk_ra_7_79 := S_79.out.cell 1 7 rfl rfl
             have hk_ra_7_79f := S_79.out.froz 1 7 rfl rfl
             have hk_ra_8_79 := S_79.out.cell 1 8 rfl rfl
             have hk_ra_8_79f := S_79.out.froz 1 8 rfl rfl
             have hk_ra_9_79 := S_79.out.cell 1 9 rfl rfl
             have hk_ra_9_79f := S_79.out.froz 1 9 rfl rfl
             have hk_ra_10_79 := S_79.out.cell 1 10 rfl rfl
             have hk_ra_10_79f := S_79.out.froz 1 10 rfl rfl
             have hk_rb_0_79 := S_79.out.cell 0 0 rfl rfl
             have hk_rb_0_79f := S_79.out.froz 0 0 rfl rfl
             have hk_rb_1_79 := S_79.out.cell 0 1 rfl rfl
             have hk_rb_1_79f := S_79.out.froz 0 1 rfl rfl
             have hk_rb_2_79 := S_79.out.cell 0 2 rfl rfl
             have hk_rb_2_79f := S_79.out.froz 0 2 rfl rfl
             go_wp2
             go_region
             all_goals go_wp2_with fail
             all_goals have hr0 := S_79.out.cell 1 0 rfl rfl
             all_goals have hr1 := S_79.out.cell 1 1 rfl rfl
             all_goals have hr2 := S_79.out.cell 1 2 rfl rfl
             all_goals have hr3 := S_79.out.cell 1 3 rfl rfl
             all_goals have hr4 := S_79.out.cell 1 4 rfl rfl
             all_goals have hr5 := S_79.out.cell 1 5 rfl rfl
             all_goals have hr6 := S_79.out.cell 1 6 rfl rfl
             all_goals have hr7 := S_79.out.cell 1 7 rfl rfl
             all_goals have hr8 := S_79.out.cell 1 8 rfl rfl
             all_goals have hr9 := S_79.out.cell 1 9 rfl rfl
             all_goals have hr10 := S_79.out.cell 1 10 rfl rfl
             all_goals have hs0 := S_79.out.cell 0 0 rfl rfl
             all_goals have hs1 := S_79.out.cell 0 1 rfl rfl
             all_goals have hs2 := S_79.out.cell 0 2 rfl rfl
             all_goals refine bodyPost_ret (v := .tuple #[.agg #[.int .i64 A, .int .i64 B, .bool S.s, (.slice A0 n0 c0), (.slice B0 m0 d0), .bool X.s, (.slice Ax4 nx4 cx4), (.slice Bx4 mx4 dx4), .bool Y.s, (.slice Ay4 ny4 cy4), (.slice By4 my4 dy4)], .agg #[.bool G.s, (.slice Ae3 ne3 ce3), (.slice Be3 me3 de3)], .bool true]) (by simp [results, Tryz.results6, go_sem, hr0, hr1, hr2, hr3, hr4, hr5, hr6, hr7, hr8, hr9, hr10, hs0, hs1, hs2]) rfl ?_
             all_goals have SR0 := ((S_79.out.setAll 1 [.int .i64 A, .int .i64 B, .bool S.s, (.slice A0 n0 c0), (.slice B0 m0 d0), .bool X.s, (.slice Ax4 nx4 cx4), (.slice Bx4 mx4 dx4), .bool Y.s, (.slice Ay4 ny4 cy4), (.slice By4 my4 dy4)] rfl rfl).setAll 0 [.bool G.s, (.slice Ae3 ne3 ce3), (.slice Be3 me3 de3)] rfl rfl)
             all_goals simp only [setCells, Nat.reduceAdd, Nat.zero_add] at SR0
             all_goals have SR := Lib.hid SR0.drew
             all_goals exact OwnMG.yes HY.out ⟨_, _, _, _, _, _, _, _, rfl, SR.out.pick [3, 2, 1, 0] [[((.slice A0 n0 c0), ints S.xs), ((.slice B0 m0 d0), ints S.ys)], [((.slice Ax4 nx4 cx4), ints X.xs), ((.slice Bx4 mx4 dx4), ints X.ys)], [((.slice Ay4 ny4 cy4), ints Y.xs), ((.slice By4 my4 dy4), ints Y.ys)], [((.slice Ae3 ne3 ce3), ints G.xs), ((.slice Be3 me3 de3), ints G.ys)]] (by decide) rfl, SR.out.below⟩
           · rw [Bool.not_eq_true] at h8
             have HNO := Lib.hid (show ok = false by rw [← HOK.out, h8, Bool.and_false])
             rw [h8]
             clear h8
             clear hk_en_0_78 hk_en_1_78 hk_en_2_78
             have hk_ra_0_79 := S_79.out.cell 1 0 rfl rfl
             have hk_ra_0_79f := S_79.out.froz 1 0 rfl rfl
             have hk_ra_1_79 := S_79.out.cell 1 1 rfl rfl
             have hk_ra_1_79f := S_79.out.froz 1 1 rfl rfl
             have hk_ra_2_79 := S_79.out.cell 1 2 rfl rfl
             have hk_ra_2_79f := S_79.out.froz 1 2 rfl rfl
             have hk_ra_3_79 := S_79.out.cell 1 3 rfl rfl
             have hk_ra_3_79f := S_79.out.froz 1 3 rfl rfl
             have hk_ra_4_79 := S_79.out.cell 1 4 rfl rfl
             have hk_ra_4_79f := S_79.out.froz 1 4 rfl rfl
             have hk_ra_5_79 := S_79.out.cell 1 5 rfl rfl
             have hk_ra_5_79f := S_79.out.froz 1 5 rfl rfl
             have hk_ra_6_79 := S_79.out.cell 1 6 rfl rfl
             have hk_ra_6_79f := S_79.out.froz 1 6 rfl rfl
             have hk_ra_7_79 := S_79.out.cell 1 7 rfl rfl
             have hk_ra_7_79f := S_79.out.froz 1 7 rfl rfl
             have hk_ra_8_79 := S_79.out.cell 1 8 rfl rfl
             have hk_ra_8_79f := S_79.out.froz 1 8 rfl rfl
             have hk_ra_9_79 := S_79.out.cell 1 9 rfl rfl
             have hk_ra_9_79f := S_79.out.froz 1 9 rfl rfl
             have hk_ra_10_79 := S_79.out.cell 1 10 rfl rfl
             have hk_ra_10_79f := S_79.out.froz 1 10 rfl rfl
             have hk_rb_0_79 := S_79.out.cell 0 0 rfl rfl
             have hk_rb_0_79f := S_79.out.froz 0 0 rfl rfl
             have hk_rb_1_79 := S_79.out.cell 0 1 rfl rfl
             have hk_rb_1_79f := S_79.out.froz 0 1 rfl rfl
             have hk_rb_2_79 := S_79.out.cell 0 2 rfl rfl
             have hk_rb_2_79f := S_79.out.froz 0 2 rfl rfl
             go_wp2
             have SR := Lib.hid ((S_79.out.setAll 1 [.int .i64 0, .int .i64 0, .bool false, .slice none 0 0, .slice none 0 0, .bool false, .slice none 0 0, .slice none 0 0, .bool false, .slice none 0 0, .slice none 0 0] rfl rfl).setAll 0 [.bool false, .slice none 0 0, .slice none 0 0] rfl rfl)
             have hr0 := S_79.out.cell 1 0 rfl rfl
             have hr1 := S_79.out.cell 1 1 rfl rfl
             have hr2 := S_79.out.cell 1 2 rfl rfl
             have hr3 := S_79.out.cell 1 3 rfl rfl
             have hr4 := S_79.out.cell 1 4 rfl rfl
             have hr5 := S_79.out.cell 1 5 rfl rfl
             have hr6 := S_79.out.cell 1 6 rfl rfl
             have hr7 := S_79.out.cell 1 7 rfl rfl
             have hr8 := S_79.out.cell 1 8 rfl rfl
             have hr9 := S_79.out.cell 1 9 rfl rfl
             have hr10 := S_79.out.cell 1 10 rfl rfl
             have hs0 := S_79.out.cell 0 0 rfl rfl
             have hs1 := S_79.out.cell 0 1 rfl rfl
             have hs2 := S_79.out.cell 0 2 rfl rfl
             exact bodyPost_ret (v := .tuple #[.agg #[.int .i64 0, .int .i64 0, .bool false, .slice none 0 0, .slice none 0 0, .bool false, .slice none 0 0, .slice none 0 0, .bool false, .slice none 0 0, .slice none 0 0], .agg #[.bool false, .slice none 0 0, .slice none 0 0], .bool false]) (by simp [results, Tryz.results6, go_sem, hr0, hr1, hr2, hr3, hr4, hr5, hr6, hr7, hr8, hr9, hr10, hs0, hs1, hs2]) rfl (OwnMG.no HNO.out SR.out)
         · rw [Bool.not_eq_true] at h9
           have HNO := Lib.hid (show ok = false by rw [← HOK.out, h9, Bool.false_and])
           rw [h9]
           clear h9
           clear hk_out_0_77 hk_out_1_77 hk_out_2_77 hk_out_3_77 hk_out_4_77 hk_out_5_77 hk_out_6_77 hk_out_7_77 hk_out_8_77 hk_out_9_77 hk_out_10_77
           have hk_ra_0_79 := S_78.out.cell 1 0 rfl rfl
           have hk_ra_0_79f := S_78.out.froz 1 0 rfl rfl
           have hk_ra_1_79 := S_78.out.cell 1 1 rfl rfl
           have hk_ra_1_79f := S_78.out.froz 1 1 rfl rfl
           have hk_ra_2_79 := S_78.out.cell 1 2 rfl rfl
           have hk_ra_2_79f := S_78.out.froz 1 2 rfl rfl
           have hk_ra_3_79 := S_78.out.cell 1 3 rfl rfl
           have hk_ra_3_79f := S_78.out.froz 1 3 rfl rfl
           have hk_ra_4_79 := S_78.out.cell 1 4 rfl rfl
           have hk_ra_4_79f := S_78.out.froz 1 4 rfl rfl
           have hk_ra_5_79 := S_78.out.cell 1 5 rfl rfl
           have hk_ra_5_79f := S_78.out.froz 1 5 rfl rfl
           have hk_ra_6_79 := S_78.out.cell 1 6 rfl rfl
           have hk_ra_6_79f := S_78.out.froz 1 6 rfl rfl
           have hk_ra_7_79 := S_78.out.cell 1 7 rfl rfl
           have hk_ra_7_79f := S_78.out.froz 1 7 rfl rfl
           have hk_ra_8_79 := S_78.out.cell 1 8 rfl rfl
           have hk_ra_8_79f := S_78.out.froz 1 8 rfl rfl
           have hk_ra_9_79 := S_78.out.cell 1 9 rfl rfl
           have hk_ra_9_79f := S_78.out.froz 1 9 rfl rfl
           have hk_ra_10_79 := S_78.out.cell 1 10 rfl rfl
           have hk_ra_10_79f := S_78.out.froz 1 10 rfl rfl
           have hk_rb_0_79 := S_78.out.cell 0 0 rfl rfl
           have hk_rb_0_79f := S_78.out.froz 0 0 rfl rfl
           have hk_rb_1_79 := S_78.out.cell 0 1 rfl rfl
           have hk_rb_1_79f := S_78.out.froz 0 1 rfl rfl
           have hk_rb_2_79 := S_78.out.cell 0 2 rfl rfl
           have hk_rb_2_79f := S_78.out.froz 0 2 rfl rfl
           go_wp2
           have SR := Lib.hid ((S_78.out.setAll 1 [.int .i64 0, .int .i64 0, .bool false, .slice none 0 0, .slice none 0 0, .bool false, .slice none 0 0, .slice none 0 0, .bool false, .slice none 0 0, .slice none 0 0] rfl rfl).setAll 0 [.bool false, .slice none 0 0, .slice none 0 0] rfl rfl)
           have hr0 := S_78.out.cell 1 0 rfl rfl
           have hr1 := S_78.out.cell 1 1 rfl rfl
           have hr2 := S_78.out.cell 1 2 rfl rfl
           have hr3 := S_78.out.cell 1 3 rfl rfl
           have hr4 := S_78.out.cell 1 4 rfl rfl
           have hr5 := S_78.out.cell 1 5 rfl rfl
           have hr6 := S_78.out.cell 1 6 rfl rfl
           have hr7 := S_78.out.cell 1 7 rfl rfl
           have hr8 := S_78.out.cell 1 8 rfl rfl
           have hr9 := S_78.out.cell 1 9 rfl rfl
           have hr10 := S_78.out.cell 1 10 rfl rfl
           have hs0 := S_78.out.cell 0 0 rfl rfl
           have hs1 := S_78.out.cell 0 1 rfl rfl
           have hs2 := S_78.out.cell 0 2 rfl rfl
           exact bodyPost_ret (v := .tuple #[.agg #[.int .i64 0, .int .i64 0, .bool false, .slice none 0 0, .slice none 0 0, .bool false, .slice none 0 0, .slice none 0 0, .bool false, .slice none 0 0, .slice none 0 0], .agg #[.bool false, .slice none 0 0, .slice none 0 0], .bool false]) (by simp [results, Tryz.results6, go_sem, hr0, hr1, hr2, hr3, hr4, hr5, hr6, hr7, hr8, hr9, hr10, hs0, hs1, hs2]) rfl (OwnMG.no HNO.out SR.out)
       · have HNO := Lib.hid (mg_no (A := A) (B := B) (C := C) (E := E) (P := P) (Q := Q) (R := R) (V := V) (U := U) (T := T) (.inr (.inr (.inr h4))))
         subst h3
         go_enter Tryz.func6, Tryz.ntmps6
         go_wp2_with fail
         refine (isValidLink_s A B P Q R p0 p1 q0 q1 r0 r1 _ (S_1.out.lkA HL.out)).mono ?_
         rintro e w1 ⟨rfl, hb⟩
         have S_80 := Lib.hid (S_1.out.call hb)
         clear S_1
         clear hb
         rw [H1.out]
         have hk_l_0_80 := S_80.out.cell 2 0 rfl rfl
         have hk_l_1_80 := S_80.out.cell 2 1 rfl rfl
         have hk_l_2_80 := S_80.out.cell 2 2 rfl rfl
         have hk_l_3_80 := S_80.out.cell 2 3 rfl rfl
         have hk_l_4_80 := S_80.out.cell 2 4 rfl rfl
         have hk_l_5_80 := S_80.out.cell 2 5 rfl rfl
         have hk_l_6_80 := S_80.out.cell 2 6 rfl rfl
         have hk_l_7_80 := S_80.out.cell 2 7 rfl rfl
         have hk_l_8_80 := S_80.out.cell 2 8 rfl rfl
         have hk_l_9_80 := S_80.out.cell 2 9 rfl rfl
         have hk_l_10_80 := S_80.out.cell 2 10 rfl rfl
         go_wp2_with fail
         refine (isValidLink_s A E V U T v0 v1 u0 u1 t0 t1 _ (S_80.out.lkA HM.out)).mono ?_
         rintro e w2 ⟨rfl, hb⟩
         have S_81 := Lib.hid (S_80.out.call hb)
         clear S_80
         clear hb
         rw [H2.out]
         have hk_k_0_81 := S_81.out.cell 3 0 rfl rfl
         have hk_k_1_81 := S_81.out.cell 3 1 rfl rfl
         have hk_k_2_81 := S_81.out.cell 3 2 rfl rfl
         have hk_k_3_81 := S_81.out.cell 3 3 rfl rfl
         have hk_k_4_81 := S_81.out.cell 3 4 rfl rfl
         have hk_k_5_81 := S_81.out.cell 3 5 rfl rfl
         have hk_k_6_81 := S_81.out.cell 3 6 rfl rfl
         have hk_k_7_81 := S_81.out.cell 3 7 rfl rfl
         have hk_k_8_81 := S_81.out.cell 3 8 rfl rfl
         have hk_k_9_81 := S_81.out.cell 3 9 rfl rfl
         have hk_k_10_81 := S_81.out.cell 3 10 rfl rfl
         have hk_l_0_81 := S_81.out.cell 2 0 rfl rfl
         have hk_l_1_81 := S_81.out.cell 2 1 rfl rfl
         have hk_l_2_81 := S_81.out.cell 2 2 rfl rfl
         have hk_l_3_81 := S_81.out.cell 2 3 rfl rfl
         have hk_l_4_81 := S_81.out.cell 2 4 rfl rfl
         have hk_l_5_81 := S_81.out.cell 2 5 rfl rfl
         have hk_l_6_81 := S_81.out.cell 2 6 rfl rfl
         have hk_l_7_81 := S_81.out.cell 2 7 rfl rfl
         have hk_l_8_81 := S_81.out.cell 2 8 rfl rfl
         have hk_l_9_81 := S_81.out.cell 2 9 rfl rfl
         have hk_l_10_81 := S_81.out.cell 2 10 rfl rfl
         have g1 : (A != A) = false := by simp
         have g2 : (B != E) = true := by simpa using h4
         have hk_ra_0_81 := S_81.out.cell 1 0 rfl rfl
         have hk_ra_0_81f := S_81.out.froz 1 0 rfl rfl
         have hk_ra_1_81 := S_81.out.cell 1 1 rfl rfl
         have hk_ra_1_81f := S_81.out.froz 1 1 rfl rfl
         have hk_ra_2_81 := S_81.out.cell 1 2 rfl rfl
         have hk_ra_2_81f := S_81.out.froz 1 2 rfl rfl
         have hk_ra_3_81 := S_81.out.cell 1 3 rfl rfl
         have hk_ra_3_81f := S_81.out.froz 1 3 rfl rfl
         have hk_ra_4_81 := S_81.out.cell 1 4 rfl rfl
         have hk_ra_4_81f := S_81.out.froz 1 4 rfl rfl
         have hk_ra_5_81 := S_81.out.cell 1 5 rfl rfl
         have hk_ra_5_81f := S_81.out.froz 1 5 rfl rfl
         have hk_ra_6_81 := S_81.out.cell 1 6 rfl rfl
         have hk_ra_6_81f := S_81.out.froz 1 6 rfl rfl
         have hk_ra_7_81 := S_81.out.cell 1 7 rfl rfl
         have hk_ra_7_81f := S_81.out.froz 1 7 rfl rfl
         have hk_ra_8_81 := S_81.out.cell 1 8 rfl rfl
         have hk_ra_8_81f := S_81.out.froz 1 8 rfl rfl
         have hk_ra_9_81 := S_81.out.cell 1 9 rfl rfl
         have hk_ra_9_81f := S_81.out.froz 1 9 rfl rfl
         have hk_ra_10_81 := S_81.out.cell 1 10 rfl rfl
         have hk_ra_10_81f := S_81.out.froz 1 10 rfl rfl
         have hk_rb_0_81 := S_81.out.cell 0 0 rfl rfl
         have hk_rb_0_81f := S_81.out.froz 0 0 rfl rfl
         have hk_rb_1_81 := S_81.out.cell 0 1 rfl rfl
         have hk_rb_1_81f := S_81.out.froz 0 1 rfl rfl
         have hk_rb_2_81 := S_81.out.cell 0 2 rfl rfl
         have hk_rb_2_81f := S_81.out.froz 0 2 rfl rfl
         go_wp2
         have SR := Lib.hid ((S_81.out.setAll 1 [.int .i64 0, .int .i64 0, .bool false, .slice none 0 0, .slice none 0 0, .bool false, .slice none 0 0, .slice none 0 0, .bool false, .slice none 0 0, .slice none 0 0] rfl rfl).setAll 0 [.bool false, .slice none 0 0, .slice none 0 0] rfl rfl)
         have hr0 := S_81.out.cell 1 0 rfl rfl
         have hr1 := S_81.out.cell 1 1 rfl rfl
         have hr2 := S_81.out.cell 1 2 rfl rfl
         have hr3 := S_81.out.cell 1 3 rfl rfl
         have hr4 := S_81.out.cell 1 4 rfl rfl
         have hr5 := S_81.out.cell 1 5 rfl rfl
         have hr6 := S_81.out.cell 1 6 rfl rfl
         have hr7 := S_81.out.cell 1 7 rfl rfl
         have hr8 := S_81.out.cell 1 8 rfl rfl
         have hr9 := S_81.out.cell 1 9 rfl rfl
         have hr10 := S_81.out.cell 1 10 rfl rfl
         have hs0 := S_81.out.cell 0 0 rfl rfl
         have hs1 := S_81.out.cell 0 1 rfl rfl
         have hs2 := S_81.out.cell 0 2 rfl rfl
         exact bodyPost_ret (v := .tuple #[.agg #[.int .i64 0, .int .i64 0, .bool false, .slice none 0 0, .slice none 0 0, .bool false, .slice none 0 0, .slice none 0 0, .bool false, .slice none 0 0, .slice none 0 0], .agg #[.bool false, .slice none 0 0, .slice none 0 0], .bool false]) (by simp [results, Tryz.results6, go_sem, hr0, hr1, hr2, hr3, hr4, hr5, hr6, hr7, hr8, hr9, hr10, hs0, hs1, hs2]) rfl (OwnMG.no HNO.out SR.out)
     · have HNO := Lib.hid (mg_no (A := A) (B := B) (C := C) (E := E) (P := P) (Q := Q) (R := R) (V := V) (U := U) (T := T) (.inr (.inr (.inl h3))))
       go_enter Tryz.func6, Tryz.ntmps6
       go_wp2_with fail
       refine (isValidLink_s A B P Q R p0 p1 q0 q1 r0 r1 _ (S_1.out.lkA HL.out)).mono ?_
       rintro e w1 ⟨rfl, hb⟩
       have S_82 := Lib.hid (S_1.out.call hb)
       clear S_1
       clear hb
       rw [H1.out]
       have hk_l_0_82 := S_82.out.cell 2 0 rfl rfl
       have hk_l_1_82 := S_82.out.cell 2 1 rfl rfl
       have hk_l_2_82 := S_82.out.cell 2 2 rfl rfl
       have hk_l_3_82 := S_82.out.cell 2 3 rfl rfl
       have hk_l_4_82 := S_82.out.cell 2 4 rfl rfl
       have hk_l_5_82 := S_82.out.cell 2 5 rfl rfl
       have hk_l_6_82 := S_82.out.cell 2 6 rfl rfl
       have hk_l_7_82 := S_82.out.cell 2 7 rfl rfl
       have hk_l_8_82 := S_82.out.cell 2 8 rfl rfl
       have hk_l_9_82 := S_82.out.cell 2 9 rfl rfl
       have hk_l_10_82 := S_82.out.cell 2 10 rfl rfl
       go_wp2_with fail
       refine (isValidLink_s C E V U T v0 v1 u0 u1 t0 t1 _ (S_82.out.lkA HM.out)).mono ?_
       rintro e w2 ⟨rfl, hb⟩
       have S_83 := Lib.hid (S_82.out.call hb)
       clear S_82
       clear hb
       rw [H2.out]
       have hk_k_0_83 := S_83.out.cell 3 0 rfl rfl
       have hk_k_1_83 := S_83.out.cell 3 1 rfl rfl
       have hk_k_2_83 := S_83.out.cell 3 2 rfl rfl
       have hk_k_3_83 := S_83.out.cell 3 3 rfl rfl
       have hk_k_4_83 := S_83.out.cell 3 4 rfl rfl
       have hk_k_5_83 := S_83.out.cell 3 5 rfl rfl
       have hk_k_6_83 := S_83.out.cell 3 6 rfl rfl
       have hk_k_7_83 := S_83.out.cell 3 7 rfl rfl
       have hk_k_8_83 := S_83.out.cell 3 8 rfl rfl
       have hk_k_9_83 := S_83.out.cell 3 9 rfl rfl
       have hk_k_10_83 := S_83.out.cell 3 10 rfl rfl
       have hk_l_0_83 := S_83.out.cell 2 0 rfl rfl
       have hk_l_1_83 := S_83.out.cell 2 1 rfl rfl
       have hk_l_2_83 := S_83.out.cell 2 2 rfl rfl
       have hk_l_3_83 := S_83.out.cell 2 3 rfl rfl
       have hk_l_4_83 := S_83.out.cell 2 4 rfl rfl
       have hk_l_5_83 := S_83.out.cell 2 5 rfl rfl
       have hk_l_6_83 := S_83.out.cell 2 6 rfl rfl
       have hk_l_7_83 := S_83.out.cell 2 7 rfl rfl
       have hk_l_8_83 := S_83.out.cell 2 8 rfl rfl
       have hk_l_9_83 := S_83.out.cell 2 9 rfl rfl
       have hk_l_10_83 := S_83.out.cell 2 10 rfl rfl
       have g1 : (A != C) = true := by simpa using h3
       have hk_ra_0_83 := S_83.out.cell 1 0 rfl rfl
       have hk_ra_0_83f := S_83.out.froz 1 0 rfl rfl
       have hk_ra_1_83 := S_83.out.cell 1 1 rfl rfl
       have hk_ra_1_83f := S_83.out.froz 1 1 rfl rfl
       have hk_ra_2_83 := S_83.out.cell 1 2 rfl rfl
       have hk_ra_2_83f := S_83.out.froz 1 2 rfl rfl
       have hk_ra_3_83 := S_83.out.cell 1 3 rfl rfl
       have hk_ra_3_83f := S_83.out.froz 1 3 rfl rfl
       have hk_ra_4_83 := S_83.out.cell 1 4 rfl rfl
       have hk_ra_4_83f := S_83.out.froz 1 4 rfl rfl
       have hk_ra_5_83 := S_83.out.cell 1 5 rfl rfl
       have hk_ra_5_83f := S_83.out.froz 1 5 rfl rfl
       have hk_ra_6_83 := S_83.out.cell 1 6 rfl rfl
       have hk_ra_6_83f := S_83.out.froz 1 6 rfl rfl
       have hk_ra_7_83 := S_83.out.cell 1 7 rfl rfl
       have hk_ra_7_83f := S_83.out.froz 1 7 rfl rfl
       have hk_ra_8_83 := S_83.out.cell 1 8 rfl rfl
       have hk_ra_8_83f := S_83.out.froz 1 8 rfl rfl
       have hk_ra_9_83 := S_83.out.cell 1 9 rfl rfl
       have hk_ra_9_83f := S_83.out.froz 1 9 rfl rfl
       have hk_ra_10_83 := S_83.out.cell 1 10 rfl rfl
       have hk_ra_10_83f := S_83.out.froz 1 10 rfl rfl
       have hk_rb_0_83 := S_83.out.cell 0 0 rfl rfl
       have hk_rb_0_83f := S_83.out.froz 0 0 rfl rfl
       have hk_rb_1_83 := S_83.out.cell 0 1 rfl rfl
       have hk_rb_1_83f := S_83.out.froz 0 1 rfl rfl
       have hk_rb_2_83 := S_83.out.cell 0 2 rfl rfl
       have hk_rb_2_83f := S_83.out.froz 0 2 rfl rfl
       go_wp2
       have SR := Lib.hid ((S_83.out.setAll 1 [.int .i64 0, .int .i64 0, .bool false, .slice none 0 0, .slice none 0 0, .bool false, .slice none 0 0, .slice none 0 0, .bool false, .slice none 0 0, .slice none 0 0] rfl rfl).setAll 0 [.bool false, .slice none 0 0, .slice none 0 0] rfl rfl)
       have hr0 := S_83.out.cell 1 0 rfl rfl
       have hr1 := S_83.out.cell 1 1 rfl rfl
       have hr2 := S_83.out.cell 1 2 rfl rfl
       have hr3 := S_83.out.cell 1 3 rfl rfl
       have hr4 := S_83.out.cell 1 4 rfl rfl
       have hr5 := S_83.out.cell 1 5 rfl rfl
       have hr6 := S_83.out.cell 1 6 rfl rfl
       have hr7 := S_83.out.cell 1 7 rfl rfl
       have hr8 := S_83.out.cell 1 8 rfl rfl
       have hr9 := S_83.out.cell 1 9 rfl rfl
       have hr10 := S_83.out.cell 1 10 rfl rfl
       have hs0 := S_83.out.cell 0 0 rfl rfl
       have hs1 := S_83.out.cell 0 1 rfl rfl
       have hs2 := S_83.out.cell 0 2 rfl rfl
       exact bodyPost_ret (v := .tuple #[.agg #[.int .i64 0, .int .i64 0, .bool false, .slice none 0 0, .slice none 0 0, .bool false, .slice none 0 0, .slice none 0 0, .bool false, .slice none 0 0, .slice none 0 0], .agg #[.bool false, .slice none 0 0, .slice none 0 0], .bool false]) (by simp [results, Tryz.results6, go_sem, hr0, hr1, hr2, hr3, hr4, hr5, hr6, hr7, hr8, hr9, hr10, hs0, hs1, hs2]) rfl (OwnMG.no HNO.out SR.out)
   · have HNO := Lib.hid (mg_no (A := A) (B := B) (C := C) (E := E) (P := P) (Q := Q) (R := R) (V := V) (U := U) (T := T) (.inr (.inl (by rw [← Bool.not_eq_true]; exact h2))))
     rw [Bool.not_eq_true] at h2
     have H2 := Lib.hid h2
     clear h2
     go_enter Tryz.func6, Tryz.ntmps6
     go_wp2_with fail
     refine (isValidLink_s A B P Q R p0 p1 q0 q1 r0 r1 _ (S_1.out.lkA HL.out)).mono ?_
     rintro e w1 ⟨rfl, hb⟩
     have S_84 := Lib.hid (S_1.out.call hb)
     clear S_1
     clear hb
     rw [H1.out]
     have hk_l_0_84 := S_84.out.cell 2 0 rfl rfl
     have hk_l_1_84 := S_84.out.cell 2 1 rfl rfl
     have hk_l_2_84 := S_84.out.cell 2 2 rfl rfl
     have hk_l_3_84 := S_84.out.cell 2 3 rfl rfl
     have hk_l_4_84 := S_84.out.cell 2 4 rfl rfl
     have hk_l_5_84 := S_84.out.cell 2 5 rfl rfl
     have hk_l_6_84 := S_84.out.cell 2 6 rfl rfl
     have hk_l_7_84 := S_84.out.cell 2 7 rfl rfl
     have hk_l_8_84 := S_84.out.cell 2 8 rfl rfl
     have hk_l_9_84 := S_84.out.cell 2 9 rfl rfl
     have hk_l_10_84 := S_84.out.cell 2 10 rfl rfl
     go_wp2_with fail
     refine (isValidLink_s C E V U T v0 v1 u0 u1 t0 t1 _ (S_84.out.lkA HM.out)).mono ?_
     rintro e w2 ⟨rfl, hb⟩
     have S_85 := Lib.hid (S_84.out.call hb)
     clear S_84
     clear hb
     rw [H2.out]
     clear hk_l_0_84 hk_l_1_84 hk_l_2_84 hk_l_3_84 hk_l_4_84 hk_l_5_84 hk_l_6_84 hk_l_7_84 hk_l_8_84 hk_l_9_84 hk_l_10_84
     have hk_ra_0_85 := S_85.out.cell 1 0 rfl rfl
     have hk_ra_0_85f := S_85.out.froz 1 0 rfl rfl
     have hk_ra_1_85 := S_85.out.cell 1 1 rfl rfl
     have hk_ra_1_85f := S_85.out.froz 1 1 rfl rfl
     have hk_ra_2_85 := S_85.out.cell 1 2 rfl rfl
     have hk_ra_2_85f := S_85.out.froz 1 2 rfl rfl
     have hk_ra_3_85 := S_85.out.cell 1 3 rfl rfl
     have hk_ra_3_85f := S_85.out.froz 1 3 rfl rfl
     have hk_ra_4_85 := S_85.out.cell 1 4 rfl rfl
     have hk_ra_4_85f := S_85.out.froz 1 4 rfl rfl
     have hk_ra_5_85 := S_85.out.cell 1 5 rfl rfl
     have hk_ra_5_85f := S_85.out.froz 1 5 rfl rfl
     have hk_ra_6_85 := S_85.out.cell 1 6 rfl rfl
     have hk_ra_6_85f := S_85.out.froz 1 6 rfl rfl
     have hk_ra_7_85 := S_85.out.cell 1 7 rfl rfl
     have hk_ra_7_85f := S_85.out.froz 1 7 rfl rfl
     have hk_ra_8_85 := S_85.out.cell 1 8 rfl rfl
     have hk_ra_8_85f := S_85.out.froz 1 8 rfl rfl
     have hk_ra_9_85 := S_85.out.cell 1 9 rfl rfl
     have hk_ra_9_85f := S_85.out.froz 1 9 rfl rfl
     have hk_ra_10_85 := S_85.out.cell 1 10 rfl rfl
     have hk_ra_10_85f := S_85.out.froz 1 10 rfl rfl
     have hk_rb_0_85 := S_85.out.cell 0 0 rfl rfl
     have hk_rb_0_85f := S_85.out.froz 0 0 rfl rfl
     have hk_rb_1_85 := S_85.out.cell 0 1 rfl rfl
     have hk_rb_1_85f := S_85.out.froz 0 1 rfl rfl
     have hk_rb_2_85 := S_85.out.cell 0 2 rfl rfl
     have hk_rb_2_85f := S_85.out.froz 0 2 rfl rfl
     go_wp2
     have SR := Lib.hid ((S_85.out.setAll 1 [.int .i64 0, .int .i64 0, .bool false, .slice none 0 0, .slice none 0 0, .bool false, .slice none 0 0, .slice none 0 0, .bool false, .slice none 0 0, .slice none 0 0] rfl rfl).setAll 0 [.bool false, .slice none 0 0, .slice none 0 0] rfl rfl)
     have hr0 := S_85.out.cell 1 0 rfl rfl
     have hr1 := S_85.out.cell 1 1 rfl rfl
     have hr2 := S_85.out.cell 1 2 rfl rfl
     have hr3 := S_85.out.cell 1 3 rfl rfl
     have hr4 := S_85.out.cell 1 4 rfl rfl
     have hr5 := S_85.out.cell 1 5 rfl rfl
     have hr6 := S_85.out.cell 1 6 rfl rfl
     have hr7 := S_85.out.cell 1 7 rfl rfl
     have hr8 := S_85.out.cell 1 8 rfl rfl
     have hr9 := S_85.out.cell 1 9 rfl rfl
     have hr10 := S_85.out.cell 1 10 rfl rfl
     have hs0 := S_85.out.cell 0 0 rfl rfl
     have hs1 := S_85.out.cell 0 1 rfl rfl
     have hs2 := S_85.out.cell 0 2 rfl rfl
     exact bodyPost_ret (v := .tuple #[.agg #[.int .i64 0, .int .i64 0, .bool false, .slice none 0 0, .slice none 0 0, .bool false, .slice none 0 0, .slice none 0 0, .bool false, .slice none 0 0, .slice none 0 0], .agg #[.bool false, .slice none 0 0, .slice none 0 0], .bool false]) (by simp [results, Tryz.results6, go_sem, hr0, hr1, hr2, hr3, hr4, hr5, hr6, hr7, hr8, hr9, hr10, hs0, hs1, hs2]) rfl (OwnMG.no HNO.out SR.out)
 · have HNO := Lib.hid (mg_no (A := A) (B := B) (C := C) (E := E) (P := P) (Q := Q) (R := R) (V := V) (U := U) (T := T) (.inl (by rw [← Bool.not_eq_true]; exact h1)))
   rw [Bool.not_eq_true] at h1
   have H1 := Lib.hid h1
   clear h1
   go_enter Tryz.func6, Tryz.ntmps6
   go_wp2_with fail
   refine (isValidLink_s A B P Q R p0 p1 q0 q1 r0 r1 _ (S_1.out.lkA HL.out)).mono ?_
   rintro e w1 ⟨rfl, hb⟩
   have S_86 := Lib.hid (S_1.out.call hb)
   clear S_1
   clear hb
   rw [H1.out]
   have hk_ra_0_86 := S_86.out.cell 1 0 rfl rfl
   have hk_ra_0_86f := S_86.out.froz 1 0 rfl rfl
   have hk_ra_1_86 := S_86.out.cell 1 1 rfl rfl
   have hk_ra_1_86f := S_86.out.froz 1 1 rfl rfl
   have hk_ra_2_86 := S_86.out.cell 1 2 rfl rfl
   have hk_ra_2_86f := S_86.out.froz 1 2 rfl rfl
   have hk_ra_3_86 := S_86.out.cell 1 3 rfl rfl
   have hk_ra_3_86f := S_86.out.froz 1 3 rfl rfl
   have hk_ra_4_86 := S_86.out.cell 1 4 rfl rfl
   have hk_ra_4_86f := S_86.out.froz 1 4 rfl rfl
   have hk_ra_5_86 := S_86.out.cell 1 5 rfl rfl
   have hk_ra_5_86f := S_86.out.froz 1 5 rfl rfl
   have hk_ra_6_86 := S_86.out.cell 1 6 rfl rfl
   have hk_ra_6_86f := S_86.out.froz 1 6 rfl rfl
   have hk_ra_7_86 := S_86.out.cell 1 7 rfl rfl
   have hk_ra_7_86f := S_86.out.froz 1 7 rfl rfl
   have hk_ra_8_86 := S_86.out.cell 1 8 rfl rfl
   have hk_ra_8_86f := S_86.out.froz 1 8 rfl rfl
   have hk_ra_9_86 := S_86.out.cell 1 9 rfl rfl
   have hk_ra_9_86f := S_86.out.froz 1 9 rfl rfl
   have hk_ra_10_86 := S_86.out.cell 1 10 rfl rfl
   have hk_ra_10_86f := S_86.out.froz 1 10 rfl rfl
   have hk_rb_0_86 := S_86.out.cell 0 0 rfl rfl
   have hk_rb_0_86f := S_86.out.froz 0 0 rfl rfl
   have hk_rb_1_86 := S_86.out.cell 0 1 rfl rfl
   have hk_rb_1_86f := S_86.out.froz 0 1 rfl rfl
   have hk_rb_2_86 := S_86.out.cell 0 2 rfl rfl
   have hk_rb_2_86f := S_86.out.froz 0 2 rfl rfl
   go_wp2
   have SR := Lib.hid ((S_86.out.setAll 1 [.int .i64 0, .int .i64 0, .bool false, .slice none 0 0, .slice none 0 0, .bool false, .slice none 0 0, .slice none 0 0, .bool false, .slice none 0 0, .slice none 0 0] rfl rfl).setAll 0 [.bool false, .slice none 0 0, .slice none 0 0] rfl rfl)
   have hr0 := S_86.out.cell 1 0 rfl rfl
   have hr1 := S_86.out.cell 1 1 rfl rfl
   have hr2 := S_86.out.cell 1 2 rfl rfl
   have hr3 := S_86.out.cell 1 3 rfl rfl
   have hr4 := S_86.out.cell 1 4 rfl rfl
   have hr5 := S_86.out.cell 1 5 rfl rfl
   have hr6 := S_86.out.cell 1 6 rfl rfl
   have hr7 := S_86.out.cell 1 7 rfl rfl
   have hr8 := S_86.out.cell 1 8 rfl rfl
   have hr9 := S_86.out.cell 1 9 rfl rfl
   have hr10 := S_86.out.cell 1 10 rfl rfl
   have hs0 := S_86.out.cell 0 0 rfl rfl
   have hs1 := S_86.out.cell 0 1 rfl rfl
   have hs2 := S_86.out.cell 0 2 rfl rfl
   exact bodyPost_ret (v := .tuple #[.agg #[.int .i64 0, .int .i64 0, .bool false, .slice none 0 0, .slice none 0 0, .bool false, .slice none 0 0, .slice none 0 0, .bool false, .slice none 0 0, .slice none 0 0], .agg #[.bool false, .slice none 0 0, .slice none 0 0], .bool false]) (by simp [results, Tryz.results6, go_sem, hr0, hr1, hr2, hr3, hr4, hr5, hr6, hr7, hr8, hr9, hr10, hs0, hs1, hs2]) rfl (OwnMG.no HNO.out SR.out)
end Go.Proofs.YtnmmgjddaidpaaaGreat
