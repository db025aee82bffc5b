/- Links: two links merged, the program. Conditions: none. -/
import Derived.Test.YtnmmgjddaidpaaaGreatMLk5m
import Derived.Test.YtnmmgjddaidpaaaGreatMLkCmp
namespace Go.Proofs.YtnmmgjddaidpaaaGreat
open Go.RowKit Nt Fr
set_option linter.unusedVariables false
set_option maxRecDepth 100000 in
set_option maxHeartbeats 40000000 in
theorem mergeLinks_i (A B : Int) (P Q R : Fr) (p0 p1 q0 q1 r0 r1 : Value) (C E : Int) (V U T : Fr) (v0 v1 u0 u1 t0 t1 : Value) (w : World) (hL : LkA w P Q R p0 p1 q0 q1 r0 r1) (hM : LkA w V U T v0 v1 u0 u1 t0 t1) :
   Calls Tryz.prog 8 #[.agg #[.int .i64 A, .int .i64 B, .bool P.s, p0, p1, .bool Q.s, q0, q1, .bool R.s, r0, r1], .agg #[.int .i64 C, .int .i64 E, .bool V.s, v0, v1, .bool U.s, u0, u1, .bool T.s, t0, t1]] w (OwnMG (mgOk A B C E P Q R V U T) A B (P.add V) (mgX P Q V U) (mgX P R V T) (mgE P Q R V U T) w) := by
 have HL := Lib.hid hL
 have HM := Lib.hid hM
 clear hL hM
 have S_1 := Lib.hid (show St w ((((w.alloc (.cells #[.int .i64 A,.int .i64 B,.bool P.s,p0,p1,.bool Q.s,q0,q1,.bool R.s,r0,r1] 34)).alloc (.cells #[.int .i64 C,.int .i64 E,.bool V.s,v0,v1,.bool U.s,u0,u1,.bool T.s,t0,t1] 34)).alloc (.cells #[.int .i64 0,.int .i64 0,.bool false,.slice none 0 0,.slice none 0 0,.bool false,.slice none 0 0,.slice none 0 0,.bool false,.slice none 0 0,.slice none 0 0] 34)).alloc (.cells #[.bool false,.slice none 0 0,.slice none 0 0] 32)) [(w.heap.size + 1 + 1 + 1,[.bool false,.slice none 0 0,.slice none 0 0]),(w.heap.size + 1 + 1,[.int .i64 0,.int .i64 0,.bool false,.slice none 0 0,.slice none 0 0,.bool false,.slice none 0 0,.slice none 0 0,.bool false,.slice none 0 0,.slice none 0 0]),(w.heap.size + 1,[.int .i64 C,.int .i64 E,.bool V.s,v0,v1,.bool U.s,u0,u1,.bool T.s,t0,t1]),(w.heap.size,[.int .i64 A,.int .i64 B,.bool P.s,p0,p1,.bool Q.s,q0,q1,.bool R.s,r0,r1])] [] from (((((St.start w).alloc_at (b := w.heap.size) [.int .i64 A,.int .i64 B,.bool P.s,p0,p1,.bool Q.s,q0,q1,.bool R.s,r0,r1] 34 (by first | rfl | simp)).alloc_at (b := w.heap.size + 1) [.int .i64 C,.int .i64 E,.bool V.s,v0,v1,.bool U.s,u0,u1,.bool T.s,t0,t1] 34 (by first | rfl | simp)).alloc_at (b := w.heap.size + 1 + 1) [.int .i64 0,.int .i64 0,.bool false,.slice none 0 0,.slice none 0 0,.bool false,.slice none 0 0,.slice none 0 0,.bool false,.slice none 0 0,.slice none 0 0] 34 (by first | rfl | simp)).alloc_at (b := w.heap.size + 1 + 1 + 1) [.bool false,.slice none 0 0,.slice none 0 0] 32 (by first | rfl | simp)))
 have hne_rb_ra : w.heap.size + 1 + 1 + 1 ≠ w.heap.size + 1 + 1 := by omega
 have hne_rb_l : w.heap.size + 1 + 1 + 1 ≠ w.heap.size + 1 := by omega
 have hne_rb_k : w.heap.size + 1 + 1 + 1 ≠ w.heap.size := by omega
 have hne_ra_rb : w.heap.size + 1 + 1 ≠ w.heap.size + 1 + 1 + 1 := by omega
 have hne_ra_l : w.heap.size + 1 + 1 ≠ w.heap.size + 1 := by omega
 have hne_ra_k : w.heap.size + 1 + 1 ≠ w.heap.size := by omega
 have hne_l_rb : w.heap.size + 1 ≠ w.heap.size + 1 + 1 + 1 := by omega
 have hne_l_ra : w.heap.size + 1 ≠ w.heap.size + 1 + 1 := by omega
 have hne_l_k : w.heap.size + 1 ≠ w.heap.size := by omega
 have hne_k_rb : w.heap.size ≠ w.heap.size + 1 + 1 + 1 := by omega
 have hne_k_ra : w.heap.size ≠ w.heap.size + 1 + 1 := by omega
 have hne_k_l : w.heap.size ≠ w.heap.size + 1 := by omega
 by_cases h1 : okK A B P Q R = true
 · have H1 := Lib.hid h1
   clear h1
   by_cases h2 : okK C E V U T = true
   · have H2 := Lib.hid h2
     clear h2
     by_cases h3 : A = C
     · by_cases h4 : B = E
       · have HMW := Lib.hid (mg_mw H1.out H2.out h3 h4)
         rw [HMW.out]
         subst h3 h4
         obtain ⟨ok, hok⟩ : ∃ z, mwOk A B P Q R V U T = z := ⟨_, rfl⟩
         rw [hok]
         have HOK := Lib.hid hok
         clear hok
         have HQ := Lib.hid (show cmpK A B A B = 0 from (cmpK_zero A B A B).mpr ⟨rfl, rfl⟩)
         go_enter Tryz.func8, Tryz.ntmps8
         go_wp2_with fail
         refine (isValidLink_i A B P Q R p0 p1 q0 q1 r0 r1 _ (S_1.out.lkA HL.out)).mono ?_
         rintro e w1 ⟨rfl, hb⟩
         have S_2 := Lib.hid (S_1.out.call hb)
         clear S_1
         clear hb
         rw [H1.out]
         have hk_l_0_2 := S_2.out.cell 2 0 rfl rfl
         have hk_l_1_2 := S_2.out.cell 2 1 rfl rfl
         have hk_l_2_2 := S_2.out.cell 2 2 rfl rfl
         have hk_l_3_2 := S_2.out.cell 2 3 rfl rfl
         have hk_l_4_2 := S_2.out.cell 2 4 rfl rfl
         have hk_l_5_2 := S_2.out.cell 2 5 rfl rfl
         have hk_l_6_2 := S_2.out.cell 2 6 rfl rfl
         have hk_l_7_2 := S_2.out.cell 2 7 rfl rfl
         have hk_l_8_2 := S_2.out.cell 2 8 rfl rfl
         have hk_l_9_2 := S_2.out.cell 2 9 rfl rfl
         have hk_l_10_2 := S_2.out.cell 2 10 rfl rfl
         go_wp2_with fail
         refine (isValidLink_i A B V U T v0 v1 u0 u1 t0 t1 _ (S_2.out.lkA HM.out)).mono ?_
         rintro e w2 ⟨rfl, hb⟩
         have S_3 := Lib.hid (S_2.out.call hb)
         clear S_2
         clear hb
         rw [H2.out]
         clear hk_l_0_2 hk_l_1_2 hk_l_2_2 hk_l_3_2 hk_l_4_2 hk_l_5_2 hk_l_6_2 hk_l_7_2 hk_l_8_2 hk_l_9_2 hk_l_10_2
         have hk_k_0_3 := S_3.out.cell 3 0 rfl rfl
         have hk_k_1_3 := S_3.out.cell 3 1 rfl rfl
         have hk_k_2_3 := S_3.out.cell 3 2 rfl rfl
         have hk_k_3_3 := S_3.out.cell 3 3 rfl rfl
         have hk_k_4_3 := S_3.out.cell 3 4 rfl rfl
         have hk_k_5_3 := S_3.out.cell 3 5 rfl rfl
         have hk_k_6_3 := S_3.out.cell 3 6 rfl rfl
         have hk_k_7_3 := S_3.out.cell 3 7 rfl rfl
         have hk_k_8_3 := S_3.out.cell 3 8 rfl rfl
         have hk_k_9_3 := S_3.out.cell 3 9 rfl rfl
         have hk_k_10_3 := S_3.out.cell 3 10 rfl rfl
         have hk_l_0_3 := S_3.out.cell 2 0 rfl rfl
         have hk_l_1_3 := S_3.out.cell 2 1 rfl rfl
         have hk_l_2_3 := S_3.out.cell 2 2 rfl rfl
         have hk_l_3_3 := S_3.out.cell 2 3 rfl rfl
         have hk_l_4_3 := S_3.out.cell 2 4 rfl rfl
         have hk_l_5_3 := S_3.out.cell 2 5 rfl rfl
         have hk_l_6_3 := S_3.out.cell 2 6 rfl rfl
         have hk_l_7_3 := S_3.out.cell 2 7 rfl rfl
         have hk_l_8_3 := S_3.out.cell 2 8 rfl rfl
         have hk_l_9_3 := S_3.out.cell 2 9 rfl rfl
         have hk_l_10_3 := S_3.out.cell 2 10 rfl rfl
         go_wp2_with fail
         refine (compareK_f A B P Q R p0 p1 q0 q1 r0 r1 A B V U T v0 v1 u0 u1 t0 t1 _).mono ?_
         rintro e w3 ⟨rfl, hb⟩
         have S_4 := Lib.hid (S_3.out.call hb)
         clear S_3
         clear hb
         rw [HQ.out]
         clear hk_k_0_3 hk_k_1_3 hk_k_2_3 hk_k_3_3 hk_k_4_3 hk_k_5_3 hk_k_6_3 hk_k_7_3 hk_k_8_3 hk_k_9_3 hk_k_10_3 hk_l_0_3 hk_l_1_3 hk_l_2_3 hk_l_3_3 hk_l_4_3 hk_l_5_3 hk_l_6_3 hk_l_7_3 hk_l_8_3 hk_l_9_3 hk_l_10_3
         have hk_k_0_4 := S_4.out.cell 3 0 rfl rfl
         have hk_k_1_4 := S_4.out.cell 3 1 rfl rfl
         have hk_k_2_4 := S_4.out.cell 3 2 rfl rfl
         have hk_k_3_4 := S_4.out.cell 3 3 rfl rfl
         have hk_k_4_4 := S_4.out.cell 3 4 rfl rfl
         have hk_k_5_4 := S_4.out.cell 3 5 rfl rfl
         have hk_k_6_4 := S_4.out.cell 3 6 rfl rfl
         have hk_k_7_4 := S_4.out.cell 3 7 rfl rfl
         have hk_k_8_4 := S_4.out.cell 3 8 rfl rfl
         have hk_k_9_4 := S_4.out.cell 3 9 rfl rfl
         have hk_k_10_4 := S_4.out.cell 3 10 rfl rfl
         have hk_l_0_4 := S_4.out.cell 2 0 rfl rfl
         have hk_l_1_4 := S_4.out.cell 2 1 rfl rfl
         have hk_l_2_4 := S_4.out.cell 2 2 rfl rfl
         have hk_l_3_4 := S_4.out.cell 2 3 rfl rfl
         have hk_l_4_4 := S_4.out.cell 2 4 rfl rfl
         have hk_l_5_4 := S_4.out.cell 2 5 rfl rfl
         have hk_l_6_4 := S_4.out.cell 2 6 rfl rfl
         have hk_l_7_4 := S_4.out.cell 2 7 rfl rfl
         have hk_l_8_4 := S_4.out.cell 2 8 rfl rfl
         have hk_l_9_4 := S_4.out.cell 2 9 rfl rfl
         have hk_l_10_4 := S_4.out.cell 2 10 rfl rfl
         go_wp2_with fail
         refine (show Calls _ _ _ _ (OwnMG ok A B (P.add V) (mgX P Q V U) (mgX P R V T) (mgE P Q R V U T) w3) from HOK.out ▸ mergedWith_f A B P Q R p0 p1 q0 q1 r0 r1 A B V U T v0 v1 u0 u1 t0 t1 w3 H1.out H2.out (S_4.out.lkA HL.out) (S_4.out.lkA HM.out)).mono ?_
         rintro e w4 ⟨v0_m, v1_m, v2_m, v3_m, v4_m, v5_m, v6_m, v7_m, rfl, ho, hb⟩
         obtain ⟨A0m, n0m, c0m, rfl⟩ := (ho.at_ 0 rfl).shape3
         obtain ⟨A1m, n1m, c1m, rfl⟩ := (ho.at_ 1 rfl).shape3
         obtain ⟨A2m, n2m, c2m, rfl⟩ := (ho.at_ 2 rfl).shape3
         obtain ⟨A3m, n3m, c3m, rfl⟩ := (ho.at_ 3 rfl).shape3
         obtain ⟨A4m, n4m, c4m, rfl⟩ := (ho.at_ 4 rfl).shape3
         obtain ⟨A5m, n5m, c5m, rfl⟩ := (ho.at_ 5 rfl).shape3
         obtain ⟨A6m, n6m, c6m, rfl⟩ := (ho.at_ 6 rfl).shape3
         obtain ⟨A7m, n7m, c7m, rfl⟩ := (ho.at_ 7 rfl).shape3
         have S_5 := Lib.hid (S_4.out.rows ho hb)
         clear S_4
         clear ho hb
         clear hk_k_0_4 hk_k_1_4 hk_k_2_4 hk_k_3_4 hk_k_4_4 hk_k_5_4 hk_k_6_4 hk_k_7_4 hk_k_8_4 hk_k_9_4 hk_k_10_4 hk_l_0_4 hk_l_1_4 hk_l_2_4 hk_l_3_4 hk_l_4_4 hk_l_5_4 hk_l_6_4 hk_l_7_4 hk_l_8_4 hk_l_9_4 hk_l_10_4
         have hk_ra_0_5 := S_5.out.cell 1 0 rfl rfl
         have hk_ra_0_5f := S_5.out.froz 1 0 rfl rfl
         have hk_ra_1_5 := S_5.out.cell 1 1 rfl rfl
         have hk_ra_1_5f := S_5.out.froz 1 1 rfl rfl
         have hk_ra_2_5 := S_5.out.cell 1 2 rfl rfl
         have hk_ra_2_5f := S_5.out.froz 1 2 rfl rfl
         have hk_ra_3_5 := S_5.out.cell 1 3 rfl rfl
         have hk_ra_3_5f := S_5.out.froz 1 3 rfl rfl
         have hk_ra_4_5 := S_5.out.cell 1 4 rfl rfl
         have hk_ra_4_5f := S_5.out.froz 1 4 rfl rfl
         have hk_ra_5_5 := S_5.out.cell 1 5 rfl rfl
         have hk_ra_5_5f := S_5.out.froz 1 5 rfl rfl
         have hk_ra_6_5 := S_5.out.cell 1 6 rfl rfl
         have hk_ra_6_5f := S_5.out.froz 1 6 rfl rfl
         have hk_ra_7_5 := S_5.out.cell 1 7 rfl rfl
         have hk_ra_7_5f := S_5.out.froz 1 7 rfl rfl
         have hk_ra_8_5 := S_5.out.cell 1 8 rfl rfl
         have hk_ra_8_5f := S_5.out.froz 1 8 rfl rfl
         have hk_ra_9_5 := S_5.out.cell 1 9 rfl rfl
         have hk_ra_9_5f := S_5.out.froz 1 9 rfl rfl
         have hk_ra_10_5 := S_5.out.cell 1 10 rfl rfl
         have hk_ra_10_5f := S_5.out.froz 1 10 rfl rfl
         have hk_rb_0_5 := S_5.out.cell 0 0 rfl rfl
         have hk_rb_0_5f := S_5.out.froz 0 0 rfl rfl
         have hk_rb_1_5 := S_5.out.cell 0 1 rfl rfl
         have hk_rb_1_5f := S_5.out.froz 0 1 rfl rfl
         have hk_rb_2_5 := S_5.out.cell 0 2 rfl rfl
         have hk_rb_2_5f := S_5.out.froz 0 2 rfl rfl
         go_wp2
         have SR := Lib.hid ((S_5.out.setAll 1 [.int .i64 (pi ok A), .int .i64 (pi ok B), .bool (pk ok (P.add V)).s, (.slice A0m n0m c0m), (.slice A1m n1m c1m), .bool (pk ok (mgX P Q V U)).s, (.slice A2m n2m c2m), (.slice A3m n3m c3m), .bool (pk ok (mgX P R V T)).s, (.slice A4m n4m c4m), (.slice A5m n5m c5m)] rfl rfl).setAll 0 [.bool (pk ok (mgE P Q R V U T)).s, (.slice A6m n6m c6m), (.slice A7m n7m c7m)] rfl rfl)
         have hr0 := S_5.out.cell 1 0 rfl rfl
         have hr1 := S_5.out.cell 1 1 rfl rfl
         have hr2 := S_5.out.cell 1 2 rfl rfl
         have hr3 := S_5.out.cell 1 3 rfl rfl
         have hr4 := S_5.out.cell 1 4 rfl rfl
         have hr5 := S_5.out.cell 1 5 rfl rfl
         have hr6 := S_5.out.cell 1 6 rfl rfl
         have hr7 := S_5.out.cell 1 7 rfl rfl
         have hr8 := S_5.out.cell 1 8 rfl rfl
         have hr9 := S_5.out.cell 1 9 rfl rfl
         have hr10 := S_5.out.cell 1 10 rfl rfl
         have hs0 := S_5.out.cell 0 0 rfl rfl
         have hs1 := S_5.out.cell 0 1 rfl rfl
         have hs2 := S_5.out.cell 0 2 rfl rfl
         exact bodyPost_ret (v := .tuple #[.agg #[.int .i64 (pi ok A), .int .i64 (pi ok B), .bool (pk ok (P.add V)).s, (.slice A0m n0m c0m), (.slice A1m n1m c1m), .bool (pk ok (mgX P Q V U)).s, (.slice A2m n2m c2m), (.slice A3m n3m c3m), .bool (pk ok (mgX P R V T)).s, (.slice A4m n4m c4m), (.slice A5m n5m c5m)], .agg #[.bool (pk ok (mgE P Q R V U T)).s, (.slice A6m n6m c6m), (.slice A7m n7m c7m)], .bool ok]) (by simp [results, Tryz.results8, go_sem, hr0, hr1, hr2, hr3, hr4, hr5, hr6, hr7, hr8, hr9, hr10, hs0, hs1, hs2]) rfl ⟨_, _, _, _, _, _, _, _, rfl, SR.out.own 0 rfl, SR.out.below⟩
       · have HNO := Lib.hid (mg_no (A := A) (B := B) (C := C) (E := E) (P := P) (Q := Q) (R := R) (V := V) (U := U) (T := T) (.inr (.inr (.inr h4))))
         subst h3
         go_enter Tryz.func8, Tryz.ntmps8
         go_wp2_with fail
         refine (isValidLink_i A B P Q R p0 p1 q0 q1 r0 r1 _ (S_1.out.lkA HL.out)).mono ?_
         rintro e w1 ⟨rfl, hb⟩
         have S_6 := Lib.hid (S_1.out.call hb)
         clear S_1
         clear hb
         rw [H1.out]
         have hk_l_0_6 := S_6.out.cell 2 0 rfl rfl
         have hk_l_1_6 := S_6.out.cell 2 1 rfl rfl
         have hk_l_2_6 := S_6.out.cell 2 2 rfl rfl
         have hk_l_3_6 := S_6.out.cell 2 3 rfl rfl
         have hk_l_4_6 := S_6.out.cell 2 4 rfl rfl
         have hk_l_5_6 := S_6.out.cell 2 5 rfl rfl
         have hk_l_6_6 := S_6.out.cell 2 6 rfl rfl
         have hk_l_7_6 := S_6.out.cell 2 7 rfl rfl
         have hk_l_8_6 := S_6.out.cell 2 8 rfl rfl
         have hk_l_9_6 := S_6.out.cell 2 9 rfl rfl
         have hk_l_10_6 := S_6.out.cell 2 10 rfl rfl
         go_wp2_with fail
         refine (isValidLink_i A E V U T v0 v1 u0 u1 t0 t1 _ (S_6.out.lkA HM.out)).mono ?_
         rintro e w2 ⟨rfl, hb⟩
         have S_7 := Lib.hid (S_6.out.call hb)
         clear S_6
         clear hb
         rw [H2.out]
         have hq1 : cmpK A B A E ≠ 0 := fun e => by have h9 := (cmpK_zero A B A E).mp e; first | exact h3 h9.1 | exact h4 h9.2
         obtain ⟨q, hq⟩ : ∃ z, cmpK A B A E = z := ⟨_, rfl⟩
         rw [hq] at hq1
         have HQ := Lib.hid hq
         have hq2 : (q != 0) = true := by simpa using hq1
         clear hq
         clear hk_l_0_6 hk_l_1_6 hk_l_2_6 hk_l_3_6 hk_l_4_6 hk_l_5_6 hk_l_6_6 hk_l_7_6 hk_l_8_6 hk_l_9_6 hk_l_10_6
         have hk_k_0_7 := S_7.out.cell 3 0 rfl rfl
         have hk_k_1_7 := S_7.out.cell 3 1 rfl rfl
         have hk_k_2_7 := S_7.out.cell 3 2 rfl rfl
         have hk_k_3_7 := S_7.out.cell 3 3 rfl rfl
         have hk_k_4_7 := S_7.out.cell 3 4 rfl rfl
         have hk_k_5_7 := S_7.out.cell 3 5 rfl rfl
         have hk_k_6_7 := S_7.out.cell 3 6 rfl rfl
         have hk_k_7_7 := S_7.out.cell 3 7 rfl rfl
         have hk_k_8_7 := S_7.out.cell 3 8 rfl rfl
         have hk_k_9_7 := S_7.out.cell 3 9 rfl rfl
         have hk_k_10_7 := S_7.out.cell 3 10 rfl rfl
         have hk_l_0_7 := S_7.out.cell 2 0 rfl rfl
         have hk_l_1_7 := S_7.out.cell 2 1 rfl rfl
         have hk_l_2_7 := S_7.out.cell 2 2 rfl rfl
         have hk_l_3_7 := S_7.out.cell 2 3 rfl rfl
         have hk_l_4_7 := S_7.out.cell 2 4 rfl rfl
         have hk_l_5_7 := S_7.out.cell 2 5 rfl rfl
         have hk_l_6_7 := S_7.out.cell 2 6 rfl rfl
         have hk_l_7_7 := S_7.out.cell 2 7 rfl rfl
         have hk_l_8_7 := S_7.out.cell 2 8 rfl rfl
         have hk_l_9_7 := S_7.out.cell 2 9 rfl rfl
         have hk_l_10_7 := S_7.out.cell 2 10 rfl rfl
         go_wp2_with fail
         refine (compareK_f A B P Q R p0 p1 q0 q1 r0 r1 A E V U T v0 v1 u0 u1 t0 t1 _).mono ?_
         rintro e w3 ⟨rfl, hb⟩
         have S_8 := Lib.hid (S_7.out.call hb)
         clear S_7
         clear hb
         rw [HQ.out]
         clear hk_k_0_7 hk_k_1_7 hk_k_2_7 hk_k_3_7 hk_k_4_7 hk_k_5_7 hk_k_6_7 hk_k_7_7 hk_k_8_7 hk_k_9_7 hk_k_10_7 hk_l_0_7 hk_l_1_7 hk_l_2_7 hk_l_3_7 hk_l_4_7 hk_l_5_7 hk_l_6_7 hk_l_7_7 hk_l_8_7 hk_l_9_7 hk_l_10_7
         have hk_ra_0_8 := S_8.out.cell 1 0 rfl rfl
         have hk_ra_0_8f := S_8.out.froz 1 0 rfl rfl
         have hk_ra_1_8 := S_8.out.cell 1 1 rfl rfl
         have hk_ra_1_8f := S_8.out.froz 1 1 rfl rfl
         have hk_ra_2_8 := S_8.out.cell 1 2 rfl rfl
         have hk_ra_2_8f := S_8.out.froz 1 2 rfl rfl
         have hk_ra_3_8 := S_8.out.cell 1 3 rfl rfl
         have hk_ra_3_8f := S_8.out.froz 1 3 rfl rfl
         have hk_ra_4_8 := S_8.out.cell 1 4 rfl rfl
         have hk_ra_4_8f := S_8.out.froz 1 4 rfl rfl
         have hk_ra_5_8 := S_8.out.cell 1 5 rfl rfl
         have hk_ra_5_8f := S_8.out.froz 1 5 rfl rfl
         have hk_ra_6_8 := S_8.out.cell 1 6 rfl rfl
         have hk_ra_6_8f := S_8.out.froz 1 6 rfl rfl
         have hk_ra_7_8 := S_8.out.cell 1 7 rfl rfl
         have hk_ra_7_8f := S_8.out.froz 1 7 rfl rfl
         have hk_ra_8_8 := S_8.out.cell 1 8 rfl rfl
         have hk_ra_8_8f := S_8.out.froz 1 8 rfl rfl
         have hk_ra_9_8 := S_8.out.cell 1 9 rfl rfl
         have hk_ra_9_8f := S_8.out.froz 1 9 rfl rfl
         have hk_ra_10_8 := S_8.out.cell 1 10 rfl rfl
         have hk_ra_10_8f := S_8.out.froz 1 10 rfl rfl
         have hk_rb_0_8 := S_8.out.cell 0 0 rfl rfl
         have hk_rb_0_8f := S_8.out.froz 0 0 rfl rfl
         have hk_rb_1_8 := S_8.out.cell 0 1 rfl rfl
         have hk_rb_1_8f := S_8.out.froz 0 1 rfl rfl
         have hk_rb_2_8 := S_8.out.cell 0 2 rfl rfl
         have hk_rb_2_8f := S_8.out.froz 0 2 rfl rfl
         go_wp2
         have SR := Lib.hid ((S_8.out.setAll 1 [.int .i64 0, .int .i64 0, .bool false, .slice none 0 0, .slice none 0 0, .bool false, .slice none 0 0, .slice none 0 0, .bool false, .slice none 0 0, .slice none 0 0] rfl rfl).setAll 0 [.bool false, .slice none 0 0, .slice none 0 0] rfl rfl)
         have hr0 := S_8.out.cell 1 0 rfl rfl
         have hr1 := S_8.out.cell 1 1 rfl rfl
         have hr2 := S_8.out.cell 1 2 rfl rfl
         have hr3 := S_8.out.cell 1 3 rfl rfl
         have hr4 := S_8.out.cell 1 4 rfl rfl
         have hr5 := S_8.out.cell 1 5 rfl rfl
         have hr6 := S_8.out.cell 1 6 rfl rfl
         have hr7 := S_8.out.cell 1 7 rfl rfl
         have hr8 := S_8.out.cell 1 8 rfl rfl
         have hr9 := S_8.out.cell 1 9 rfl rfl
         have hr10 := S_8.out.cell 1 10 rfl rfl
         have hs0 := S_8.out.cell 0 0 rfl rfl
         have hs1 := S_8.out.cell 0 1 rfl rfl
         have hs2 := S_8.out.cell 0 2 rfl rfl
         exact bodyPost_ret (v := .tuple #[.agg #[.int .i64 0, .int .i64 0, .bool false, .slice none 0 0, .slice none 0 0, .bool false, .slice none 0 0, .slice none 0 0, .bool false, .slice none 0 0, .slice none 0 0], .agg #[.bool false, .slice none 0 0, .slice none 0 0], .bool false]) (by simp [results, Tryz.results8, go_sem, hr0, hr1, hr2, hr3, hr4, hr5, hr6, hr7, hr8, hr9, hr10, hs0, hs1, hs2]) rfl (OwnMG.no HNO.out SR.out)
     · have HNO := Lib.hid (mg_no (A := A) (B := B) (C := C) (E := E) (P := P) (Q := Q) (R := R) (V := V) (U := U) (T := T) (.inr (.inr (.inl h3))))
       go_enter Tryz.func8, Tryz.ntmps8
       go_wp2_with fail
       refine (isValidLink_i A B P Q R p0 p1 q0 q1 r0 r1 _ (S_1.out.lkA HL.out)).mono ?_
       rintro e w1 ⟨rfl, hb⟩
       have S_9 := Lib.hid (S_1.out.call hb)
       clear S_1
       clear hb
       rw [H1.out]
       have hk_l_0_9 := S_9.out.cell 2 0 rfl rfl
       have hk_l_1_9 := S_9.out.cell 2 1 rfl rfl
       have hk_l_2_9 := S_9.out.cell 2 2 rfl rfl
       have hk_l_3_9 := S_9.out.cell 2 3 rfl rfl
       have hk_l_4_9 := S_9.out.cell 2 4 rfl rfl
       have hk_l_5_9 := S_9.out.cell 2 5 rfl rfl
       have hk_l_6_9 := S_9.out.cell 2 6 rfl rfl
       have hk_l_7_9 := S_9.out.cell 2 7 rfl rfl
       have hk_l_8_9 := S_9.out.cell 2 8 rfl rfl
       have hk_l_9_9 := S_9.out.cell 2 9 rfl rfl
       have hk_l_10_9 := S_9.out.cell 2 10 rfl rfl
       go_wp2_with fail
       refine (isValidLink_i C E V U T v0 v1 u0 u1 t0 t1 _ (S_9.out.lkA HM.out)).mono ?_
       rintro e w2 ⟨rfl, hb⟩
       have S_10 := Lib.hid (S_9.out.call hb)
       clear S_9
       clear hb
       rw [H2.out]
       have hq1 : cmpK A B C E ≠ 0 := fun e => by have h9 := (cmpK_zero A B C E).mp e; first | exact h3 h9.1 | exact h4 h9.2
       obtain ⟨q, hq⟩ : ∃ z, cmpK A B C E = z := ⟨_, rfl⟩
       rw [hq] at hq1
       have HQ := Lib.hid hq
       have hq2 : (q != 0) = true := by simpa using hq1
       clear hq
       clear hk_l_0_9 hk_l_1_9 hk_l_2_9 hk_l_3_9 hk_l_4_9 hk_l_5_9 hk_l_6_9 hk_l_7_9 hk_l_8_9 hk_l_9_9 hk_l_10_9
       have hk_k_0_10 := S_10.out.cell 3 0 rfl rfl
       have hk_k_1_10 := S_10.out.cell 3 1 rfl rfl
       have hk_k_2_10 := S_10.out.cell 3 2 rfl rfl
       have hk_k_3_10 := S_10.out.cell 3 3 rfl rfl
       have hk_k_4_10 := S_10.out.cell 3 4 rfl rfl
       have hk_k_5_10 := S_10.out.cell 3 5 rfl rfl
       have hk_k_6_10 := S_10.out.cell 3 6 rfl rfl
       have hk_k_7_10 := S_10.out.cell 3 7 rfl rfl
       have hk_k_8_10 := S_10.out.cell 3 8 rfl rfl
       have hk_k_9_10 := S_10.out.cell 3 9 rfl rfl
       have hk_k_10_10 := S_10.out.cell 3 10 rfl rfl
       have hk_l_0_10 := S_10.out.cell 2 0 rfl rfl
       have hk_l_1_10 := S_10.out.cell 2 1 rfl rfl
       have hk_l_2_10 := S_10.out.cell 2 2 rfl rfl
       have hk_l_3_10 := S_10.out.cell 2 3 rfl rfl
       have hk_l_4_10 := S_10.out.cell 2 4 rfl rfl
       have hk_l_5_10 := S_10.out.cell 2 5 rfl rfl
       have hk_l_6_10 := S_10.out.cell 2 6 rfl rfl
       have hk_l_7_10 := S_10.out.cell 2 7 rfl rfl
       have hk_l_8_10 := S_10.out.cell 2 8 rfl rfl
       have hk_l_9_10 := S_10.out.cell 2 9 rfl rfl
       have hk_l_10_10 := S_10.out.cell 2 10 rfl rfl
       go_wp2_with fail
       refine (compareK_f A B P Q R p0 p1 q0 q1 r0 r1 C E V U T v0 v1 u0 u1 t0 t1 _).mono ?_
       rintro e w3 ⟨rfl, hb⟩
       have S_11 := Lib.hid (S_10.out.call hb)
       clear S_10
       clear hb
       rw [HQ.out]
       clear hk_k_0_10 hk_k_1_10 hk_k_2_10 hk_k_3_10 hk_k_4_10 hk_k_5_10 hk_k_6_10 hk_k_7_10 hk_k_8_10 hk_k_9_10 hk_k_10_10 hk_l_0_10 hk_l_1_10 hk_l_2_10 hk_l_3_10 hk_l_4_10 hk_l_5_10 hk_l_6_10 hk_l_7_10 hk_l_8_10 hk_l_9_10 hk_l_10_10
       have hk_ra_0_11 := S_11.out.cell 1 0 rfl rfl
       have hk_ra_0_11f := S_11.out.froz 1 0 rfl rfl
       have hk_ra_1_11 := S_11.out.cell 1 1 rfl rfl
       have hk_ra_1_11f := S_11.out.froz 1 1 rfl rfl
       have hk_ra_2_11 := S_11.out.cell 1 2 rfl rfl
       have hk_ra_2_11f := S_11.out.froz 1 2 rfl rfl
       have hk_ra_3_11 := S_11.out.cell 1 3 rfl rfl
       have hk_ra_3_11f := S_11.out.froz 1 3 rfl rfl
       have hk_ra_4_11 := S_11.out.cell 1 4 rfl rfl
       have hk_ra_4_11f := S_11.out.froz 1 4 rfl rfl
       have hk_ra_5_11 := S_11.out.cell 1 5 rfl rfl
       have hk_ra_5_11f := S_11.out.froz 1 5 rfl rfl
       have hk_ra_6_11 := S_11.out.cell 1 6 rfl rfl
       have hk_ra_6_11f := S_11.out.froz 1 6 rfl rfl
       have hk_ra_7_11 := S_11.out.cell 1 7 rfl rfl
       have hk_ra_7_11f := S_11.out.froz 1 7 rfl rfl
       have hk_ra_8_11 := S_11.out.cell 1 8 rfl rfl
       have hk_ra_8_11f := S_11.out.froz 1 8 rfl rfl
       have hk_ra_9_11 := S_11.out.cell 1 9 rfl rfl
       have hk_ra_9_11f := S_11.out.froz 1 9 rfl rfl
       have hk_ra_10_11 := S_11.out.cell 1 10 rfl rfl
       have hk_ra_10_11f := S_11.out.froz 1 10 rfl rfl
       have hk_rb_0_11 := S_11.out.cell 0 0 rfl rfl
       have hk_rb_0_11f := S_11.out.froz 0 0 rfl rfl
       have hk_rb_1_11 := S_11.out.cell 0 1 rfl rfl
       have hk_rb_1_11f := S_11.out.froz 0 1 rfl rfl
       have hk_rb_2_11 := S_11.out.cell 0 2 rfl rfl
       have hk_rb_2_11f := S_11.out.froz 0 2 rfl rfl
       go_wp2
       have SR := Lib.hid ((S_11.out.setAll 1 [.int .i64 0, .int .i64 0, .bool false, .slice none 0 0, .slice none 0 0, .bool false, .slice none 0 0, .slice none 0 0, .bool false, .slice none 0 0, .slice none 0 0] rfl rfl).setAll 0 [.bool false, .slice none 0 0, .slice none 0 0] rfl rfl)
       have hr0 := S_11.out.cell 1 0 rfl rfl
       have hr1 := S_11.out.cell 1 1 rfl rfl
       have hr2 := S_11.out.cell 1 2 rfl rfl
       have hr3 := S_11.out.cell 1 3 rfl rfl
       have hr4 := S_11.out.cell 1 4 rfl rfl
       have hr5 := S_11.out.cell 1 5 rfl rfl
       have hr6 := S_11.out.cell 1 6 rfl rfl
       have hr7 := S_11.out.cell 1 7 rfl rfl
       have hr8 := S_11.out.cell 1 8 rfl rfl
       have hr9 := S_11.out.cell 1 9 rfl rfl
       have hr10 := S_11.out.cell 1 10 rfl rfl
       have hs0 := S_11.out.cell 0 0 rfl rfl
       have hs1 := S_11.out.cell 0 1 rfl rfl
       have hs2 := S_11.out.cell 0 2 rfl rfl
       exact bodyPost_ret (v := .tuple #[.agg #[.int .i64 0, .int .i64 0, .bool false, .slice none 0 0, .slice none 0 0, .bool false, .slice none 0 0, .slice none 0 0, .bool false, .slice none 0 0, .slice none 0 0], .agg #[.bool false, .slice none 0 0, .slice none 0 0], .bool false]) (by simp [results, Tryz.results8, go_sem, hr0, hr1, hr2, hr3, hr4, hr5, hr6, hr7, hr8, hr9, hr10, hs0, hs1, hs2]) rfl (OwnMG.no HNO.out SR.out)
   · have HNO := Lib.hid (mg_no (A := A) (B := B) (C := C) (E := E) (P := P) (Q := Q) (R := R) (V := V) (U := U) (T := T) (.inr (.inl (by rw [← Bool.not_eq_true]; exact h2))))
     rw [Bool.not_eq_true] at h2
     have H2 := Lib.hid h2
     clear h2
     go_enter Tryz.func8, Tryz.ntmps8
     go_wp2_with fail
     refine (isValidLink_i A B P Q R p0 p1 q0 q1 r0 r1 _ (S_1.out.lkA HL.out)).mono ?_
     rintro e w1 ⟨rfl, hb⟩
     have S_12 := Lib.hid (S_1.out.call hb)
     clear S_1
     clear hb
     rw [H1.out]
     have hk_l_0_12 := S_12.out.cell 2 0 rfl rfl
     have hk_l_1_12 := S_12.out.cell 2 1 rfl rfl
     have hk_l_2_12 := S_12.out.cell 2 2 rfl rfl
     have hk_l_3_12 := S_12.out.cell 2 3 rfl rfl
     have hk_l_4_12 := S_12.out.cell 2 4 rfl rfl
     have hk_l_5_12 := S_12.out.cell 2 5 rfl rfl
     have hk_l_6_12 := S_12.out.cell 2 6 rfl rfl
     have hk_l_7_12 := S_12.out.cell 2 7 rfl rfl
     have hk_l_8_12 := S_12.out.cell 2 8 rfl rfl
     have hk_l_9_12 := S_12.out.cell 2 9 rfl rfl
     have hk_l_10_12 := S_12.out.cell 2 10 rfl rfl
     go_wp2_with fail
     refine (isValidLink_i C E V U T v0 v1 u0 u1 t0 t1 _ (S_12.out.lkA HM.out)).mono ?_
     rintro e w2 ⟨rfl, hb⟩
     have S_13 := Lib.hid (S_12.out.call hb)
     clear S_12
     clear hb
     rw [H2.out]
     clear hk_l_0_12 hk_l_1_12 hk_l_2_12 hk_l_3_12 hk_l_4_12 hk_l_5_12 hk_l_6_12 hk_l_7_12 hk_l_8_12 hk_l_9_12 hk_l_10_12
     have hk_ra_0_13 := S_13.out.cell 1 0 rfl rfl
     have hk_ra_0_13f := S_13.out.froz 1 0 rfl rfl
     have hk_ra_1_13 := S_13.out.cell 1 1 rfl rfl
     have hk_ra_1_13f := S_13.out.froz 1 1 rfl rfl
     have hk_ra_2_13 := S_13.out.cell 1 2 rfl rfl
     have hk_ra_2_13f := S_13.out.froz 1 2 rfl rfl
     have hk_ra_3_13 := S_13.out.cell 1 3 rfl rfl
     have hk_ra_3_13f := S_13.out.froz 1 3 rfl rfl
     have hk_ra_4_13 := S_13.out.cell 1 4 rfl rfl
     have hk_ra_4_13f := S_13.out.froz 1 4 rfl rfl
     have hk_ra_5_13 := S_13.out.cell 1 5 rfl rfl
     have hk_ra_5_13f := S_13.out.froz 1 5 rfl rfl
     have hk_ra_6_13 := S_13.out.cell 1 6 rfl rfl
     have hk_ra_6_13f := S_13.out.froz 1 6 rfl rfl
     have hk_ra_7_13 := S_13.out.cell 1 7 rfl rfl
     have hk_ra_7_13f := S_13.out.froz 1 7 rfl rfl
     have hk_ra_8_13 := S_13.out.cell 1 8 rfl rfl
     have hk_ra_8_13f := S_13.out.froz 1 8 rfl rfl
     have hk_ra_9_13 := S_13.out.cell 1 9 rfl rfl
     have hk_ra_9_13f := S_13.out.froz 1 9 rfl rfl
     have hk_ra_10_13 := S_13.out.cell 1 10 rfl rfl
     have hk_ra_10_13f := S_13.out.froz 1 10 rfl rfl
     have hk_rb_0_13 := S_13.out.cell 0 0 rfl rfl
     have hk_rb_0_13f := S_13.out.froz 0 0 rfl rfl
     have hk_rb_1_13 := S_13.out.cell 0 1 rfl rfl
     have hk_rb_1_13f := S_13.out.froz 0 1 rfl rfl
     have hk_rb_2_13 := S_13.out.cell 0 2 rfl rfl
     have hk_rb_2_13f := S_13.out.froz 0 2 rfl rfl
     go_wp2
     have SR := Lib.hid ((S_13.out.setAll 1 [.int .i64 0, .int .i64 0, .bool false, .slice none 0 0, .slice none 0 0, .bool false, .slice none 0 0, .slice none 0 0, .bool false, .slice none 0 0, .slice none 0 0] rfl rfl).setAll 0 [.bool false, .slice none 0 0, .slice none 0 0] rfl rfl)
     have hr0 := S_13.out.cell 1 0 rfl rfl
     have hr1 := S_13.out.cell 1 1 rfl rfl
     have hr2 := S_13.out.cell 1 2 rfl rfl
     have hr3 := S_13.out.cell 1 3 rfl rfl
     have hr4 := S_13.out.cell 1 4 rfl rfl
     have hr5 := S_13.out.cell 1 5 rfl rfl
     have hr6 := S_13.out.cell 1 6 rfl rfl
     have hr7 := S_13.out.cell 1 7 rfl rfl
     have hr8 := S_13.out.cell 1 8 rfl rfl
     have hr9 := S_13.out.cell 1 9 rfl rfl
     have hr10 := S_13.out.cell 1 10 rfl rfl
     have hs0 := S_13.out.cell 0 0 rfl rfl
     have hs1 := S_13.out.cell 0 1 rfl rfl
     have hs2 := S_13.out.cell 0 2 rfl rfl
     exact bodyPost_ret (v := .tuple #[.agg #[.int .i64 0, .int .i64 0, .bool false, .slice none 0 0, .slice none 0 0, .bool false, .slice none 0 0, .slice none 0 0, .bool false, .slice none 0 0, .slice none 0 0], .agg #[.bool false, .slice none 0 0, .slice none 0 0], .bool false]) (by simp [results, Tryz.results8, go_sem, hr0, hr1, hr2, hr3, hr4, hr5, hr6, hr7, hr8, hr9, hr10, hs0, hs1, hs2]) rfl (OwnMG.no HNO.out SR.out)
 · have HNO := Lib.hid (mg_no (A := A) (B := B) (C := C) (E := E) (P := P) (Q := Q) (R := R) (V := V) (U := U) (T := T) (.inl (by rw [← Bool.not_eq_true]; exact h1)))
   rw [Bool.not_eq_true] at h1
   have H1 := Lib.hid h1
   clear h1
   go_enter Tryz.func8, Tryz.ntmps8
   go_wp2_with fail
   refine (isValidLink_i A B P Q R p0 p1 q0 q1 r0 r1 _ (S_1.out.lkA HL.out)).mono ?_
   rintro e w1 ⟨rfl, hb⟩
   have S_14 := Lib.hid (S_1.out.call hb)
   clear S_1
   clear hb
   rw [H1.out]
   have hk_ra_0_14 := S_14.out.cell 1 0 rfl rfl
   have hk_ra_0_14f := S_14.out.froz 1 0 rfl rfl
   have hk_ra_1_14 := S_14.out.cell 1 1 rfl rfl
   have hk_ra_1_14f := S_14.out.froz 1 1 rfl rfl
   have hk_ra_2_14 := S_14.out.cell 1 2 rfl rfl
   have hk_ra_2_14f := S_14.out.froz 1 2 rfl rfl
   have hk_ra_3_14 := S_14.out.cell 1 3 rfl rfl
   have hk_ra_3_14f := S_14.out.froz 1 3 rfl rfl
   have hk_ra_4_14 := S_14.out.cell 1 4 rfl rfl
   have hk_ra_4_14f := S_14.out.froz 1 4 rfl rfl
   have hk_ra_5_14 := S_14.out.cell 1 5 rfl rfl
   have hk_ra_5_14f := S_14.out.froz 1 5 rfl rfl
   have hk_ra_6_14 := S_14.out.cell 1 6 rfl rfl
   have hk_ra_6_14f := S_14.out.froz 1 6 rfl rfl
   have hk_ra_7_14 := S_14.out.cell 1 7 rfl rfl
   have hk_ra_7_14f := S_14.out.froz 1 7 rfl rfl
   have hk_ra_8_14 := S_14.out.cell 1 8 rfl rfl
   have hk_ra_8_14f := S_14.out.froz 1 8 rfl rfl
   have hk_ra_9_14 := S_14.out.cell 1 9 rfl rfl
   have hk_ra_9_14f := S_14.out.froz 1 9 rfl rfl
   have hk_ra_10_14 := S_14.out.cell 1 10 rfl rfl
   have hk_ra_10_14f := S_14.out.froz 1 10 rfl rfl
   have hk_rb_0_14 := S_14.out.cell 0 0 rfl rfl
   have hk_rb_0_14f := S_14.out.froz 0 0 rfl rfl
   have hk_rb_1_14 := S_14.out.cell 0 1 rfl rfl
   have hk_rb_1_14f := S_14.out.froz 0 1 rfl rfl
   have hk_rb_2_14 := S_14.out.cell 0 2 rfl rfl
   have hk_rb_2_14f := S_14.out.froz 0 2 rfl rfl
   go_wp2
   have SR := Lib.hid ((S_14.out.setAll 1 [.int .i64 0, .int .i64 0, .bool false, .slice none 0 0, .slice none 0 0, .bool false, .slice none 0 0, .slice none 0 0, .bool false, .slice none 0 0, .slice none 0 0] rfl rfl).setAll 0 [.bool false, .slice none 0 0, .slice none 0 0] rfl rfl)
   have hr0 := S_14.out.cell 1 0 rfl rfl
   have hr1 := S_14.out.cell 1 1 rfl rfl
   have hr2 := S_14.out.cell 1 2 rfl rfl
   have hr3 := S_14.out.cell 1 3 rfl rfl
   have hr4 := S_14.out.cell 1 4 rfl rfl
   have hr5 := S_14.out.cell 1 5 rfl rfl
   have hr6 := S_14.out.cell 1 6 rfl rfl
   have hr7 := S_14.out.cell 1 7 rfl rfl
   have hr8 := S_14.out.cell 1 8 rfl rfl
   have hr9 := S_14.out.cell 1 9 rfl rfl
   have hr10 := S_14.out.cell 1 10 rfl rfl
   have hs0 := S_14.out.cell 0 0 rfl rfl
   have hs1 := S_14.out.cell 0 1 rfl rfl
   have hs2 := S_14.out.cell 0 2 rfl rfl
   exact bodyPost_ret (v := .tuple #[.agg #[.int .i64 0, .int .i64 0, .bool false, .slice none 0 0, .slice none 0 0, .bool false, .slice none 0 0, .slice none 0 0, .bool false, .slice none 0 0, .slice none 0 0], .agg #[.bool false, .slice none 0 0, .slice none 0 0], .bool false]) (by simp [results, Tryz.results8, go_sem, hr0, hr1, hr2, hr3, hr4, hr5, hr6, hr7, hr8, hr9, hr10, hs0, hs1, hs2]) rfl (OwnMG.no HNO.out SR.out)
end Go.Proofs.YtnmmgjddaidpaaaGreat
