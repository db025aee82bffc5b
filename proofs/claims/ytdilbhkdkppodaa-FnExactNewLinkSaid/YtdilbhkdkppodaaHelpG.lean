/- The laws' helpers: links copied and compared. Conditions: none. -/
import Derived.Test.YtdilbhkdkppodaaHelpF
namespace Go.Proofs.Ytdilbhkdkppodaa
open Go.RowKit Nt Fr
set_option linter.unusedVariables false

set_option maxRecDepth 100000 in
set_option maxHeartbeats 4000000 in
theorem toLink_f (A B : Int) (P Q R : Fr) (p0 p1 q0 q1 r0 r1 : Value) (w : World) (hL : LkI w P Q R p0 p1 q0 q1 r0 r1) (hl : P.len + Q.len + R.len ≤ 1048576) :
    Calls Try.prog 9 #[.agg #[.int .i64 A, .int .i64 B, .bool P.s, p0, p1, .bool Q.s, q0, q1, .bool R.s, r0, r1]] w (OwnK A B P Q R w) := by
  have HL := Lib.hid hL
  clear hL
  have S_1 := Lib.hid (show St w (((w.alloc (.cells #[.int .i64 A, .int .i64 B, .bool P.s, p0, p1, .bool Q.s, q0, q1, .bool R.s, r0, r1] 28)).alloc (.cells #[.int .i64 0, .int .i64 0, .bool false, .slice none 0 0, .slice none 0 0, .bool false, .slice none 0 0, .slice none 0 0, .bool false, .slice none 0 0, .slice none 0 0] 35)).alloc (.cells #[.int .i64 A, .int .i64 B, .bool false, .slice none 0 0, .slice none 0 0, .bool false, .slice none 0 0, .slice none 0 0, .bool false, .slice none 0 0, .slice none 0 0] 35)) [(w.heap.size + 1 + 1, [.int .i64 A, .int .i64 B, .bool false, .slice none 0 0, .slice none 0 0, .bool false, .slice none 0 0, .slice none 0 0, .bool false, .slice none 0 0, .slice none 0 0]), (w.heap.size + 1, [.int .i64 0, .int .i64 0, .bool false, .slice none 0 0, .slice none 0 0, .bool false, .slice none 0 0, .slice none 0 0, .bool false, .slice none 0 0, .slice none 0 0]), (w.heap.size, [.int .i64 A, .int .i64 B, .bool P.s, p0, p1, .bool Q.s, q0, q1, .bool R.s, r0, r1])] [] from ((((St.start w).alloc_at (b := w.heap.size) [.int .i64 A, .int .i64 B, .bool P.s, p0, p1, .bool Q.s, q0, q1, .bool R.s, r0, r1] 28 (by first | rfl | simp)).alloc_at (b := w.heap.size + 1) [.int .i64 0, .int .i64 0, .bool false, .slice none 0 0, .slice none 0 0, .bool false, .slice none 0 0, .slice none 0 0, .bool false, .slice none 0 0, .slice none 0 0] 35 (by first | rfl | simp)).alloc_at (b := w.heap.size + 1 + 1) [.int .i64 A, .int .i64 B, .bool false, .slice none 0 0, .slice none 0 0, .bool false, .slice none 0 0, .slice none 0 0, .bool false, .slice none 0 0, .slice none 0 0] 35 (by first | rfl | simp)))
  have hne_out_res : w.heap.size + 1 + 1 ≠ w.heap.size + 1 := by omega
  have hne_out_a : w.heap.size + 1 + 1 ≠ w.heap.size := by omega
  have hne_res_out : w.heap.size + 1 ≠ w.heap.size + 1 + 1 := by omega
  have hne_res_a : w.heap.size + 1 ≠ w.heap.size := by omega
  have hne_a_out : w.heap.size ≠ w.heap.size + 1 + 1 := by omega
  have hne_a_res : w.heap.size ≠ w.heap.size + 1 := by omega
  go_enter Try.func9, Try.ntmps9
  go_wp2_with fail
  refine (toRat_f P p0 p1 _ (S_1.out.lkI HL.out).p (by omega)).mono ?_
  rintro e w1 ⟨v1, u1, rfl, ho, hb⟩
  obtain ⟨A1, n1, c1, rfl⟩ := (ho.at_ 0 rfl).shape3
  obtain ⟨B1, m1, d1, rfl⟩ := (ho.at_ 1 rfl).shape3
  have S_2 := Lib.hid (S_1.out.rows ho hb)
  clear S_1
  clear ho hb
  have hk_a_0_2 := S_2.out.cell 2 0 rfl rfl
  have hk_a_1_2 := S_2.out.cell 2 1 rfl rfl
  have hk_a_2_2 := S_2.out.cell 2 2 rfl rfl
  have hk_a_3_2 := S_2.out.cell 2 3 rfl rfl
  have hk_a_4_2 := S_2.out.cell 2 4 rfl rfl
  have hk_a_5_2 := S_2.out.cell 2 5 rfl rfl
  have hk_a_6_2 := S_2.out.cell 2 6 rfl rfl
  have hk_a_7_2 := S_2.out.cell 2 7 rfl rfl
  have hk_a_8_2 := S_2.out.cell 2 8 rfl rfl
  have hk_a_9_2 := S_2.out.cell 2 9 rfl rfl
  have hk_a_10_2 := S_2.out.cell 2 10 rfl rfl
  have hk_out_0_2 := S_2.out.cell 0 0 rfl rfl
  have hk_out_0_2f := S_2.out.froz 0 0 rfl rfl
  have hk_out_1_2 := S_2.out.cell 0 1 rfl rfl
  have hk_out_1_2f := S_2.out.froz 0 1 rfl rfl
  have hk_out_2_2 := S_2.out.cell 0 2 rfl rfl
  have hk_out_2_2f := S_2.out.froz 0 2 rfl rfl
  have hk_out_3_2 := S_2.out.cell 0 3 rfl rfl
  have hk_out_3_2f := S_2.out.froz 0 3 rfl rfl
  have hk_out_4_2 := S_2.out.cell 0 4 rfl rfl
  have hk_out_4_2f := S_2.out.froz 0 4 rfl rfl
  have hk_out_5_2 := S_2.out.cell 0 5 rfl rfl
  have hk_out_5_2f := S_2.out.froz 0 5 rfl rfl
  have hk_out_6_2 := S_2.out.cell 0 6 rfl rfl
  have hk_out_6_2f := S_2.out.froz 0 6 rfl rfl
  have hk_out_7_2 := S_2.out.cell 0 7 rfl rfl
  have hk_out_7_2f := S_2.out.froz 0 7 rfl rfl
  have hk_out_8_2 := S_2.out.cell 0 8 rfl rfl
  have hk_out_8_2f := S_2.out.froz 0 8 rfl rfl
  have hk_out_9_2 := S_2.out.cell 0 9 rfl rfl
  have hk_out_9_2f := S_2.out.froz 0 9 rfl rfl
  have hk_out_10_2 := S_2.out.cell 0 10 rfl rfl
  have hk_out_10_2f := S_2.out.froz 0 10 rfl rfl
  go_wp2_with fail
  clear hk_a_0_2 hk_a_1_2 hk_a_2_2 hk_a_3_2 hk_a_4_2 hk_a_5_2 hk_a_6_2 hk_a_7_2 hk_a_8_2 hk_a_9_2 hk_a_10_2 hk_out_0_2 hk_out_0_2f hk_out_1_2 hk_out_1_2f hk_out_2_2 hk_out_2_2f hk_out_3_2 hk_out_3_2f hk_out_4_2 hk_out_4_2f hk_out_5_2 hk_out_5_2f hk_out_6_2 hk_out_6_2f hk_out_7_2 hk_out_7_2f hk_out_8_2 hk_out_8_2f hk_out_9_2 hk_out_9_2f hk_out_10_2 hk_out_10_2f
  have S_3 := Lib.hid (show St w (((w1.setCell ⟨w.heap.size + 1 + 1, 2, none⟩ (.bool P.s)).setCell ⟨w.heap.size + 1 + 1, 3, none⟩ ((.slice A1 n1 c1))).setCell ⟨w.heap.size + 1 + 1, 4, none⟩ ((.slice B1 m1 d1))) [(w.heap.size + 1 + 1, [.int .i64 A, .int .i64 B, .bool P.s, (.slice A1 n1 c1), (.slice B1 m1 d1), .bool false, .slice none 0 0, .slice none 0 0, .bool false, .slice none 0 0, .slice none 0 0]), (w.heap.size + 1, [.int .i64 0, .int .i64 0, .bool false, .slice none 0 0, .slice none 0 0, .bool false, .slice none 0 0, .slice none 0 0, .bool false, .slice none 0 0, .slice none 0 0]), (w.heap.size, [.int .i64 A, .int .i64 B, .bool P.s, p0, p1, .bool Q.s, q0, q1, .bool R.s, r0, r1])] [[((.slice A1 n1 c1), ints P.xs), ((.slice B1 m1 d1), ints P.ys)]] from (((S_2.out.set 0 2 (.bool P.s) rfl rfl).set 0 3 ((.slice A1 n1 c1)) rfl rfl).set 0 4 ((.slice B1 m1 d1)) rfl rfl))
  clear S_2
  obtain ⟨u1, hu1⟩ : ∃ u, (((w1.setCell ⟨w.heap.size + 1 + 1, 2, none⟩ (.bool P.s)).setCell ⟨w.heap.size + 1 + 1, 3, none⟩ ((.slice A1 n1 c1))).setCell ⟨w.heap.size + 1 + 1, 4, none⟩ ((.slice B1 m1 d1))) = u := ⟨_, rfl⟩
  rw [hu1] at S_3 ⊢
  clear hu1
  refine (toRat_f Q q0 q1 _ (S_3.out.lkI HL.out).q (by omega)).mono ?_
  rintro e w2 ⟨v2, u2, rfl, ho, hb⟩
  obtain ⟨A2, n2, c2, rfl⟩ := (ho.at_ 0 rfl).shape3
  obtain ⟨B2, m2, d2, rfl⟩ := (ho.at_ 1 rfl).shape3
  have S_4 := Lib.hid (S_3.out.rows ho hb)
  clear S_3
  clear ho hb
  have hk_a_0_4 := S_4.out.cell 2 0 rfl rfl
  have hk_a_1_4 := S_4.out.cell 2 1 rfl rfl
  have hk_a_2_4 := S_4.out.cell 2 2 rfl rfl
  have hk_a_3_4 := S_4.out.cell 2 3 rfl rfl
  have hk_a_4_4 := S_4.out.cell 2 4 rfl rfl
  have hk_a_5_4 := S_4.out.cell 2 5 rfl rfl
  have hk_a_6_4 := S_4.out.cell 2 6 rfl rfl
  have hk_a_7_4 := S_4.out.cell 2 7 rfl rfl
  have hk_a_8_4 := S_4.out.cell 2 8 rfl rfl
  have hk_a_9_4 := S_4.out.cell 2 9 rfl rfl
  have hk_a_10_4 := S_4.out.cell 2 10 rfl rfl
  have hk_out_0_4 := S_4.out.cell 0 0 rfl rfl
  have hk_out_0_4f := S_4.out.froz 0 0 rfl rfl
  have hk_out_1_4 := S_4.out.cell 0 1 rfl rfl
  have hk_out_1_4f := S_4.out.froz 0 1 rfl rfl
  have hk_out_2_4 := S_4.out.cell 0 2 rfl rfl
  have hk_out_2_4f := S_4.out.froz 0 2 rfl rfl
  have hk_out_3_4 := S_4.out.cell 0 3 rfl rfl
  have hk_out_3_4f := S_4.out.froz 0 3 rfl rfl
  have hk_out_4_4 := S_4.out.cell 0 4 rfl rfl
  have hk_out_4_4f := S_4.out.froz 0 4 rfl rfl
  have hk_out_5_4 := S_4.out.cell 0 5 rfl rfl
  have hk_out_5_4f := S_4.out.froz 0 5 rfl rfl
  have hk_out_6_4 := S_4.out.cell 0 6 rfl rfl
  have hk_out_6_4f := S_4.out.froz 0 6 rfl rfl
  have hk_out_7_4 := S_4.out.cell 0 7 rfl rfl
  have hk_out_7_4f := S_4.out.froz 0 7 rfl rfl
  have hk_out_8_4 := S_4.out.cell 0 8 rfl rfl
  have hk_out_8_4f := S_4.out.froz 0 8 rfl rfl
  have hk_out_9_4 := S_4.out.cell 0 9 rfl rfl
  have hk_out_9_4f := S_4.out.froz 0 9 rfl rfl
  have hk_out_10_4 := S_4.out.cell 0 10 rfl rfl
  have hk_out_10_4f := S_4.out.froz 0 10 rfl rfl
  go_wp2_with fail
  clear hk_a_0_4 hk_a_1_4 hk_a_2_4 hk_a_3_4 hk_a_4_4 hk_a_5_4 hk_a_6_4 hk_a_7_4 hk_a_8_4 hk_a_9_4 hk_a_10_4 hk_out_0_4 hk_out_0_4f hk_out_1_4 hk_out_1_4f hk_out_2_4 hk_out_2_4f hk_out_3_4 hk_out_3_4f hk_out_4_4 hk_out_4_4f hk_out_5_4 hk_out_5_4f hk_out_6_4 hk_out_6_4f hk_out_7_4 hk_out_7_4f hk_out_8_4 hk_out_8_4f hk_out_9_4 hk_out_9_4f hk_out_10_4 hk_out_10_4f
  have S_5 := Lib.hid (show St w (((w2.setCell ⟨w.heap.size + 1 + 1, 5, none⟩ (.bool Q.s)).setCell ⟨w.heap.size + 1 + 1, 6, none⟩ ((.slice A2 n2 c2))).setCell ⟨w.heap.size + 1 + 1, 7, none⟩ ((.slice B2 m2 d2))) [(w.heap.size + 1 + 1, [.int .i64 A, .int .i64 B, .bool P.s, (.slice A1 n1 c1), (.slice B1 m1 d1), .bool Q.s, (.slice A2 n2 c2), (.slice B2 m2 d2), .bool false, .slice none 0 0, .slice none 0 0]), (w.heap.size + 1, [.int .i64 0, .int .i64 0, .bool false, .slice none 0 0, .slice none 0 0, .bool false, .slice none 0 0, .slice none 0 0, .bool false, .slice none 0 0, .slice none 0 0]), (w.heap.size, [.int .i64 A, .int .i64 B, .bool P.s, p0, p1, .bool Q.s, q0, q1, .bool R.s, r0, r1])] [[((.slice A2 n2 c2), ints Q.xs), ((.slice B2 m2 d2), ints Q.ys)], [((.slice A1 n1 c1), ints P.xs), ((.slice B1 m1 d1), ints P.ys)]] from (((S_4.out.set 0 5 (.bool Q.s) rfl rfl).set 0 6 ((.slice A2 n2 c2)) rfl rfl).set 0 7 ((.slice B2 m2 d2)) rfl rfl))
  clear S_4
  obtain ⟨u2, hu2⟩ : ∃ u, (((w2.setCell ⟨w.heap.size + 1 + 1, 5, none⟩ (.bool Q.s)).setCell ⟨w.heap.size + 1 + 1, 6, none⟩ ((.slice A2 n2 c2))).setCell ⟨w.heap.size + 1 + 1, 7, none⟩ ((.slice B2 m2 d2))) = u := ⟨_, rfl⟩
  rw [hu2] at S_5 ⊢
  clear hu2
  refine (toRat_f R r0 r1 _ (S_5.out.lkI HL.out).r (by omega)).mono ?_
  rintro e w3 ⟨v3, u3, rfl, ho, hb⟩
  obtain ⟨A3, n3, c3, rfl⟩ := (ho.at_ 0 rfl).shape3
  obtain ⟨B3, m3, d3, rfl⟩ := (ho.at_ 1 rfl).shape3
  have S_6 := Lib.hid (S_5.out.rows ho hb)
  clear S_5
  clear ho hb
  have hk_out_0_6 := S_6.out.cell 0 0 rfl rfl
  have hk_out_0_6f := S_6.out.froz 0 0 rfl rfl
  have hk_out_1_6 := S_6.out.cell 0 1 rfl rfl
  have hk_out_1_6f := S_6.out.froz 0 1 rfl rfl
  have hk_out_2_6 := S_6.out.cell 0 2 rfl rfl
  have hk_out_2_6f := S_6.out.froz 0 2 rfl rfl
  have hk_out_3_6 := S_6.out.cell 0 3 rfl rfl
  have hk_out_3_6f := S_6.out.froz 0 3 rfl rfl
  have hk_out_4_6 := S_6.out.cell 0 4 rfl rfl
  have hk_out_4_6f := S_6.out.froz 0 4 rfl rfl
  have hk_out_5_6 := S_6.out.cell 0 5 rfl rfl
  have hk_out_5_6f := S_6.out.froz 0 5 rfl rfl
  have hk_out_6_6 := S_6.out.cell 0 6 rfl rfl
  have hk_out_6_6f := S_6.out.froz 0 6 rfl rfl
  have hk_out_7_6 := S_6.out.cell 0 7 rfl rfl
  have hk_out_7_6f := S_6.out.froz 0 7 rfl rfl
  have hk_out_8_6 := S_6.out.cell 0 8 rfl rfl
  have hk_out_8_6f := S_6.out.froz 0 8 rfl rfl
  have hk_out_9_6 := S_6.out.cell 0 9 rfl rfl
  have hk_out_9_6f := S_6.out.froz 0 9 rfl rfl
  have hk_out_10_6 := S_6.out.cell 0 10 rfl rfl
  have hk_out_10_6f := S_6.out.froz 0 10 rfl rfl
  have hk_res_0_6 := S_6.out.cell 1 0 rfl rfl
  have hk_res_0_6f := S_6.out.froz 1 0 rfl rfl
  have hk_res_1_6 := S_6.out.cell 1 1 rfl rfl
  have hk_res_1_6f := S_6.out.froz 1 1 rfl rfl
  have hk_res_2_6 := S_6.out.cell 1 2 rfl rfl
  have hk_res_2_6f := S_6.out.froz 1 2 rfl rfl
  have hk_res_3_6 := S_6.out.cell 1 3 rfl rfl
  have hk_res_3_6f := S_6.out.froz 1 3 rfl rfl
  have hk_res_4_6 := S_6.out.cell 1 4 rfl rfl
  have hk_res_4_6f := S_6.out.froz 1 4 rfl rfl
  have hk_res_5_6 := S_6.out.cell 1 5 rfl rfl
  have hk_res_5_6f := S_6.out.froz 1 5 rfl rfl
  have hk_res_6_6 := S_6.out.cell 1 6 rfl rfl
  have hk_res_6_6f := S_6.out.froz 1 6 rfl rfl
  have hk_res_7_6 := S_6.out.cell 1 7 rfl rfl
  have hk_res_7_6f := S_6.out.froz 1 7 rfl rfl
  have hk_res_8_6 := S_6.out.cell 1 8 rfl rfl
  have hk_res_8_6f := S_6.out.froz 1 8 rfl rfl
  have hk_res_9_6 := S_6.out.cell 1 9 rfl rfl
  have hk_res_9_6f := S_6.out.froz 1 9 rfl rfl
  have hk_res_10_6 := S_6.out.cell 1 10 rfl rfl
  have hk_res_10_6f := S_6.out.froz 1 10 rfl rfl
  go_wp2
  have SR := Lib.hid ((((((((((((((S_6.out.set 0 8 (.bool R.s) rfl rfl).set 0 9 ((.slice A3 n3 c3)) rfl rfl).set 0 10 ((.slice B3 m3 d3)) rfl rfl).set 1 0 (.int .i64 A) rfl rfl).set 1 1 (.int .i64 B) rfl rfl).set 1 2 (.bool P.s) rfl rfl).set 1 3 ((.slice A1 n1 c1)) rfl rfl).set 1 4 ((.slice B1 m1 d1)) rfl rfl).set 1 5 (.bool Q.s) rfl rfl).set 1 6 ((.slice A2 n2 c2)) rfl rfl).set 1 7 ((.slice B2 m2 d2)) rfl rfl).set 1 8 (.bool R.s) rfl rfl).set 1 9 ((.slice A3 n3 c3)) rfl rfl).set 1 10 ((.slice B3 m3 d3)) rfl rfl)
  have hr0 := S_6.out.cell 1 0 rfl rfl
  have hr1 := S_6.out.cell 1 1 rfl rfl
  have hr2 := S_6.out.cell 1 2 rfl rfl
  have hr3 := S_6.out.cell 1 3 rfl rfl
  have hr4 := S_6.out.cell 1 4 rfl rfl
  have hr5 := S_6.out.cell 1 5 rfl rfl
  have hr6 := S_6.out.cell 1 6 rfl rfl
  have hr7 := S_6.out.cell 1 7 rfl rfl
  have hr8 := S_6.out.cell 1 8 rfl rfl
  have hr9 := S_6.out.cell 1 9 rfl rfl
  have hr10 := S_6.out.cell 1 10 rfl rfl
  exact bodyPost_ret (v := .agg #[.int .i64 A, .int .i64 B, .bool P.s, (.slice A1 n1 c1), (.slice B1 m1 d1), .bool Q.s, (.slice A2 n2 c2), (.slice B2 m2 d2), .bool R.s, (.slice A3 n3 c3), (.slice B3 m3 d3)]) (by simp [results, Try.results9, go_sem, hr0, hr1, hr2, hr3, hr4, hr5, hr6, hr7, hr8, hr9, hr10]) rfl ⟨_, _, _, _, _, _, rfl, SR.out.pick [2, 1, 0] [[((.slice A1 n1 c1), ints P.xs), ((.slice B1 m1 d1), ints P.ys)], [((.slice A2 n2 c2), ints Q.xs), ((.slice B2 m2 d2), ints Q.ys)], [((.slice A3 n3 c3), ints R.xs), ((.slice B3 m3 d3), ints R.ys)]] (by decide) rfl, SR.out.below⟩
set_option maxRecDepth 100000 in
set_option maxHeartbeats 4000000 in
theorem eqLink_f (A B : Int) (P Q R : Fr) (p0 p1 q0 q1 r0 r1 : Value) (p2 p3 q2 q3 r2 r3 : Value) (w : World) (hL : LkI w P Q R p0 p1 q0 q1 r0 r1) (hM : LkI w P Q R p2 p3 q2 q3 r2 r3) :
    Calls Try.prog 11 #[.agg #[.int .i64 A, .int .i64 B, .bool P.s, p0, p1, .bool Q.s, q0, q1, .bool R.s, r0, r1], .agg #[.int .i64 A, .int .i64 B, .bool P.s, p2, p3, .bool Q.s, q2, q3, .bool R.s, r2, r3]] w fun e w' => e = .returned (.bool true) ∧ Below w.heap.size w w' := by
  have HL := Lib.hid hL
  have HM := Lib.hid hM
  clear hL hM
  have S_1 := Lib.hid (show St w ((w.alloc (.cells #[.int .i64 A, .int .i64 B, .bool P.s, p0, p1, .bool Q.s, q0, q1, .bool R.s, r0, r1] 35)).alloc (.cells #[.int .i64 A, .int .i64 B, .bool P.s, p2, p3, .bool Q.s, q2, q3, .bool R.s, r2, r3] 35)) [(w.heap.size + 1, [.int .i64 A, .int .i64 B, .bool P.s, p2, p3, .bool Q.s, q2, q3, .bool R.s, r2, r3]), (w.heap.size, [.int .i64 A, .int .i64 B, .bool P.s, p0, p1, .bool Q.s, q0, q1, .bool R.s, r0, r1])] [] from (((St.start w).alloc_at (b := w.heap.size) [.int .i64 A, .int .i64 B, .bool P.s, p0, p1, .bool Q.s, q0, q1, .bool R.s, r0, r1] 35 (by first | rfl | simp)).alloc_at (b := w.heap.size + 1) [.int .i64 A, .int .i64 B, .bool P.s, p2, p3, .bool Q.s, q2, q3, .bool R.s, r2, r3] 35 (by first | rfl | simp)))
  have hne_b_a : w.heap.size + 1 ≠ w.heap.size := by omega
  have hne_a_b : w.heap.size ≠ w.heap.size + 1 := by omega
  go_enter Try.func11, Try.ntmps11
  go_wp2_with fail
  refine (eqRat_f P p0 p1 _ p2 p3 (S_1.out.lkI HL.out).p (S_1.out.lkI HM.out).p).mono ?_
  rintro e w1 ⟨rfl, hb⟩
  have S_2 := Lib.hid (S_1.out.call hb)
  clear S_1
  clear hb
  have hk_a_0_2 := S_2.out.cell 1 0 rfl rfl
  have hk_a_1_2 := S_2.out.cell 1 1 rfl rfl
  have hk_a_2_2 := S_2.out.cell 1 2 rfl rfl
  have hk_a_3_2 := S_2.out.cell 1 3 rfl rfl
  have hk_a_4_2 := S_2.out.cell 1 4 rfl rfl
  have hk_a_5_2 := S_2.out.cell 1 5 rfl rfl
  have hk_a_6_2 := S_2.out.cell 1 6 rfl rfl
  have hk_a_7_2 := S_2.out.cell 1 7 rfl rfl
  have hk_a_8_2 := S_2.out.cell 1 8 rfl rfl
  have hk_a_9_2 := S_2.out.cell 1 9 rfl rfl
  have hk_a_10_2 := S_2.out.cell 1 10 rfl rfl
  have hk_b_0_2 := S_2.out.cell 0 0 rfl rfl
  have hk_b_1_2 := S_2.out.cell 0 1 rfl rfl
  have hk_b_2_2 := S_2.out.cell 0 2 rfl rfl
  have hk_b_3_2 := S_2.out.cell 0 3 rfl rfl
  have hk_b_4_2 := S_2.out.cell 0 4 rfl rfl
  have hk_b_5_2 := S_2.out.cell 0 5 rfl rfl
  have hk_b_6_2 := S_2.out.cell 0 6 rfl rfl
  have hk_b_7_2 := S_2.out.cell 0 7 rfl rfl
  have hk_b_8_2 := S_2.out.cell 0 8 rfl rfl
  have hk_b_9_2 := S_2.out.cell 0 9 rfl rfl
  have hk_b_10_2 := S_2.out.cell 0 10 rfl rfl
  go_wp2_with fail
  refine (eqRat_f Q q0 q1 _ q2 q3 (S_2.out.lkI HL.out).q (S_2.out.lkI HM.out).q).mono ?_
  rintro e w2 ⟨rfl, hb⟩
  have S_3 := Lib.hid (S_2.out.call hb)
  clear S_2
  clear hb
  clear hk_a_0_2 hk_a_1_2 hk_a_2_2 hk_a_3_2 hk_a_4_2 hk_a_5_2 hk_a_6_2 hk_a_7_2 hk_a_8_2 hk_a_9_2 hk_a_10_2 hk_b_0_2 hk_b_1_2 hk_b_2_2 hk_b_3_2 hk_b_4_2 hk_b_5_2 hk_b_6_2 hk_b_7_2 hk_b_8_2 hk_b_9_2 hk_b_10_2
  have hk_a_0_3 := S_3.out.cell 1 0 rfl rfl
  have hk_a_1_3 := S_3.out.cell 1 1 rfl rfl
  have hk_a_2_3 := S_3.out.cell 1 2 rfl rfl
  have hk_a_3_3 := S_3.out.cell 1 3 rfl rfl
  have hk_a_4_3 := S_3.out.cell 1 4 rfl rfl
  have hk_a_5_3 := S_3.out.cell 1 5 rfl rfl
  have hk_a_6_3 := S_3.out.cell 1 6 rfl rfl
  have hk_a_7_3 := S_3.out.cell 1 7 rfl rfl
  have hk_a_8_3 := S_3.out.cell 1 8 rfl rfl
  have hk_a_9_3 := S_3.out.cell 1 9 rfl rfl
  have hk_a_10_3 := S_3.out.cell 1 10 rfl rfl
  have hk_b_0_3 := S_3.out.cell 0 0 rfl rfl
  have hk_b_1_3 := S_3.out.cell 0 1 rfl rfl
  have hk_b_2_3 := S_3.out.cell 0 2 rfl rfl
  have hk_b_3_3 := S_3.out.cell 0 3 rfl rfl
  have hk_b_4_3 := S_3.out.cell 0 4 rfl rfl
  have hk_b_5_3 := S_3.out.cell 0 5 rfl rfl
  have hk_b_6_3 := S_3.out.cell 0 6 rfl rfl
  have hk_b_7_3 := S_3.out.cell 0 7 rfl rfl
  have hk_b_8_3 := S_3.out.cell 0 8 rfl rfl
  have hk_b_9_3 := S_3.out.cell 0 9 rfl rfl
  have hk_b_10_3 := S_3.out.cell 0 10 rfl rfl
  go_wp2_with fail
  refine (eqRat_f R r0 r1 _ r2 r3 (S_3.out.lkI HL.out).r (S_3.out.lkI HM.out).r).mono ?_
  rintro e w3 ⟨rfl, hb⟩
  have S_4 := Lib.hid (S_3.out.call hb)
  clear S_3
  clear hb
  clear hk_a_0_3 hk_a_1_3 hk_a_2_3 hk_a_3_3 hk_a_4_3 hk_a_5_3 hk_a_6_3 hk_a_7_3 hk_a_8_3 hk_a_9_3 hk_a_10_3 hk_b_0_3 hk_b_1_3 hk_b_2_3 hk_b_3_3 hk_b_4_3 hk_b_5_3 hk_b_6_3 hk_b_7_3 hk_b_8_3 hk_b_9_3 hk_b_10_3
  go_wp2
  go_ret
  exact ⟨rfl, S_4.out.below⟩
end Go.Proofs.Ytdilbhkdkppodaa
