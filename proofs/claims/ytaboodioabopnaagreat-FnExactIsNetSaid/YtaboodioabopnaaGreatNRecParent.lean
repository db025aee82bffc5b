/- Records: Parent: the laws' helpers. Conditions: none. -/
import Derived.Test.YtaboodioabopnaaGreatNRec
import Derived.Test.YtaboodioabopnaaGreatNOpenL
namespace Go.Proofs.YtaboodioabopnaaGreat
open Go.ChangeShapes Go.WideShapes Go.ChangeAt Go.RowKit Go.Joins Go.Deep Nt Fr
set_option linter.unusedVariables false
def OwnParent (A : Int) (P Q R : Fr) (w : World) (en : Ending) (w' : World) : Prop :=
 ∃ p0 p1 q0 q1 r0 r1, en = .returned (.agg #[.int .i64 A, .bool P.s, p0, p1, .bool Q.s, q0, q1, .bool R.s, r0, r1]) ∧ Owns w' w.heap.size [(p0, ints P.xs), (p1, ints P.ys), (q0, ints Q.xs), (q1, ints Q.ys), (r0, ints R.xs), (r1, ints R.ys)] ∧ Below w.heap.size w w'
set_option maxRecDepth 100000 in
set_option maxHeartbeats 4000000 in
theorem szParent_f (A : Int) (P Q R : Fr) (p0 p1 q0 q1 r0 r1 : Value) (w : World) (k : Int) (h0 : 0 ≤ k) (h1 : k ≤ 1048576) (hP : FrI w P p0 p1) (hQ : FrI w Q q0 q1) (hR : FrI w R r0 r1) :
   Calls Tryz.prog 90 #[.agg #[.int .i64 A, .bool P.s, p0, p1, .bool Q.s, q0, q1, .bool R.s, r0, r1], .int .i64 k] w fun e w' => e = .returned (.int .i64 (szOf k (P.len + Q.len + R.len))) ∧ Below w.heap.size w w' := by
 have HhP := Lib.hid hP
 have HhQ := Lib.hid hQ
 have HhR := Lib.hid hR
 clear hP hQ hR
 have S_1 := Lib.hid (show St w (w.alloc (.cells #[.int .i64 A, .bool P.s, p0, p1, .bool Q.s, q0, q1, .bool R.s, r0, r1] 117)) [(w.heap.size, [.int .i64 A, .bool P.s, p0, p1, .bool Q.s, q0, q1, .bool R.s, r0, r1])] [] from ((St.start w).alloc_at (b := w.heap.size) [.int .i64 A, .bool P.s, p0, p1, .bool Q.s, q0, q1, .bool R.s, r0, r1] 117 (by first | rfl | simp)))
 go_enter Tryz.func90, Tryz.ntmps90
 have hk_a_0_1 := S_1.out.cell 0 0 rfl rfl
 have hk_a_1_1 := S_1.out.cell 0 1 rfl rfl
 have hk_a_2_1 := S_1.out.cell 0 2 rfl rfl
 have hk_a_3_1 := S_1.out.cell 0 3 rfl rfl
 have hk_a_4_1 := S_1.out.cell 0 4 rfl rfl
 have hk_a_5_1 := S_1.out.cell 0 5 rfl rfl
 have hk_a_6_1 := S_1.out.cell 0 6 rfl rfl
 have hk_a_7_1 := S_1.out.cell 0 7 rfl rfl
 have hk_a_8_1 := S_1.out.cell 0 8 rfl rfl
 have hk_a_9_1 := S_1.out.cell 0 9 rfl rfl
 go_wp2_with fail
 refine (szRat_f P p0 p1 _ (k) (by omega) (by omega) (S_1.out.frI HhP.out)).mono ?_
 rintro e w1 ⟨rfl, hb⟩
 have S_2 := Lib.hid (S_1.out.call hb)
 clear S_1
 clear hb
 clear hk_a_0_1 hk_a_1_1 hk_a_2_1 hk_a_3_1 hk_a_4_1 hk_a_5_1 hk_a_6_1 hk_a_7_1 hk_a_8_1 hk_a_9_1
 by_cases hs0 : k < (P.len : Int)
 · rw [szOf_neg hs0]
   go_wp2
   go_ret
   exact ⟨ret_int (szOf_neg (by omega)).symm, S_2.out.below⟩
 · rw [szOf_pos hs0]
   obtain ⟨k0, hk0⟩ : ∃ q : Int, k - (P.len : Int) = q := ⟨_, rfl⟩
   rw [hk0]
   have hk_a_0_2 := S_2.out.cell 0 0 rfl rfl
   have hk_a_1_2 := S_2.out.cell 0 1 rfl rfl
   have hk_a_2_2 := S_2.out.cell 0 2 rfl rfl
   have hk_a_3_2 := S_2.out.cell 0 3 rfl rfl
   have hk_a_4_2 := S_2.out.cell 0 4 rfl rfl
   have hk_a_5_2 := S_2.out.cell 0 5 rfl rfl
   have hk_a_6_2 := S_2.out.cell 0 6 rfl rfl
   have hk_a_7_2 := S_2.out.cell 0 7 rfl rfl
   have hk_a_8_2 := S_2.out.cell 0 8 rfl rfl
   have hk_a_9_2 := S_2.out.cell 0 9 rfl rfl
   go_wp2_with fail
   refine (szRat_f Q q0 q1 _ (k0) (by omega) (by omega) (S_2.out.frI HhQ.out)).mono ?_
   rintro e w2 ⟨rfl, hb⟩
   have S_3 := Lib.hid (S_2.out.call hb)
   clear S_2
   clear hb
   clear hk_a_0_2 hk_a_1_2 hk_a_2_2 hk_a_3_2 hk_a_4_2 hk_a_5_2 hk_a_6_2 hk_a_7_2 hk_a_8_2 hk_a_9_2
   by_cases hs1 : k0 < (Q.len : Int)
   · rw [szOf_neg hs1]
     go_wp2
     go_ret
     exact ⟨ret_int (szOf_neg (by omega)).symm, S_3.out.below⟩
   · rw [szOf_pos hs1]
     obtain ⟨k1, hk1⟩ : ∃ q : Int, k0 - (Q.len : Int) = q := ⟨_, rfl⟩
     rw [hk1]
     have hk_a_0_3 := S_3.out.cell 0 0 rfl rfl
     have hk_a_1_3 := S_3.out.cell 0 1 rfl rfl
     have hk_a_2_3 := S_3.out.cell 0 2 rfl rfl
     have hk_a_3_3 := S_3.out.cell 0 3 rfl rfl
     have hk_a_4_3 := S_3.out.cell 0 4 rfl rfl
     have hk_a_5_3 := S_3.out.cell 0 5 rfl rfl
     have hk_a_6_3 := S_3.out.cell 0 6 rfl rfl
     have hk_a_7_3 := S_3.out.cell 0 7 rfl rfl
     have hk_a_8_3 := S_3.out.cell 0 8 rfl rfl
     have hk_a_9_3 := S_3.out.cell 0 9 rfl rfl
     go_wp2_with fail
     refine (szRat_f R r0 r1 _ (k1) (by omega) (by omega) (S_3.out.frI HhR.out)).mono ?_
     rintro e w3 ⟨rfl, hb⟩
     have S_4 := Lib.hid (S_3.out.call hb)
     clear S_3
     clear hb
     clear hk_a_0_3 hk_a_1_3 hk_a_2_3 hk_a_3_3 hk_a_4_3 hk_a_5_3 hk_a_6_3 hk_a_7_3 hk_a_8_3 hk_a_9_3
     by_cases hs2 : k1 < (R.len : Int)
     · rw [szOf_neg hs2]
       go_wp2
       go_ret
       exact ⟨ret_int (szOf_neg (by omega)).symm, S_4.out.below⟩
     · rw [szOf_pos hs2]
       obtain ⟨k2, hk2⟩ : ∃ q : Int, k1 - (R.len : Int) = q := ⟨_, rfl⟩
       rw [hk2]
       go_wp2
       go_ret
       exact ⟨ret_int (by rw [szOf_pos (by omega)]; omega), S_4.out.below⟩
set_option maxRecDepth 100000 in
set_option maxHeartbeats 4000000 in
theorem toParent_f (A : Int) (P Q R : Fr) (p0 p1 q0 q1 r0 r1 : Value) (w : World) (hP : FrI w P p0 p1) (hQ : FrI w Q q0 q1) (hR : FrI w R r0 r1) (hl : P.len + Q.len + R.len ≤ 1048576) :
   Calls Tryz.prog 94 #[.agg #[.int .i64 A, .bool P.s, p0, p1, .bool Q.s, q0, q1, .bool R.s, r0, r1]] w (OwnParent A P Q R w) := by
 have HhP := Lib.hid hP
 have HhQ := Lib.hid hQ
 have HhR := Lib.hid hR
 clear hP hQ hR
 have S_1 := Lib.hid (show St w (((w.alloc (.cells #[.int .i64 A, .bool P.s, p0, p1, .bool Q.s, q0, q1, .bool R.s, r0, r1] 117)).alloc (.cells #[.int .i64 0, .bool false, .slice none 0 0, .slice none 0 0, .bool false, .slice none 0 0, .slice none 0 0, .bool false, .slice none 0 0, .slice none 0 0] 63)).alloc (.cells #[.int .i64 A, .bool false, .slice none 0 0, .slice none 0 0, .bool false, .slice none 0 0, .slice none 0 0, .bool false, .slice none 0 0, .slice none 0 0] 63)) [(w.heap.size + 1 + 1, [.int .i64 A, .bool false, .slice none 0 0, .slice none 0 0, .bool false, .slice none 0 0, .slice none 0 0, .bool false, .slice none 0 0, .slice none 0 0]), (w.heap.size + 1, [.int .i64 0, .bool false, .slice none 0 0, .slice none 0 0, .bool false, .slice none 0 0, .slice none 0 0, .bool false, .slice none 0 0, .slice none 0 0]), (w.heap.size, [.int .i64 A, .bool P.s, p0, p1, .bool Q.s, q0, q1, .bool R.s, r0, r1])] [] from ((((St.start w).alloc_at (b := w.heap.size) [.int .i64 A, .bool P.s, p0, p1, .bool Q.s, q0, q1, .bool R.s, r0, r1] 117 (by first | rfl | simp)).alloc_at (b := w.heap.size + 1) [.int .i64 0, .bool false, .slice none 0 0, .slice none 0 0, .bool false, .slice none 0 0, .slice none 0 0, .bool false, .slice none 0 0, .slice none 0 0] 63 (by first | rfl | simp)).alloc_at (b := w.heap.size + 1 + 1) [.int .i64 A, .bool false, .slice none 0 0, .slice none 0 0, .bool false, .slice none 0 0, .slice none 0 0, .bool false, .slice none 0 0, .slice none 0 0] 63 (by first | rfl | simp)))
 have hne_out_res : w.heap.size + 1 + 1 ≠ w.heap.size + 1 := by omega
 have hne_out_a : w.heap.size + 1 + 1 ≠ w.heap.size := by omega
 have hne_res_out : w.heap.size + 1 ≠ w.heap.size + 1 + 1 := by omega
 have hne_res_a : w.heap.size + 1 ≠ w.heap.size := by omega
 have hne_a_out : w.heap.size ≠ w.heap.size + 1 + 1 := by omega
 have hne_a_res : w.heap.size ≠ w.heap.size + 1 := by omega
 go_enter Tryz.func94, Tryz.ntmps94
 go_wp2_with fail
 refine (toRat_f P p0 p1 _ (S_1.out.frI HhP.out) (by omega)).mono ?_
 rintro e w1 ⟨v1, u1, rfl, ho, hb⟩
 obtain ⟨A1, n1, c1, rfl⟩ := (ho.at_ 0 rfl).shape3
 obtain ⟨B1, m1, d1, rfl⟩ := (ho.at_ 1 rfl).shape3
 have S_2 := Lib.hid (S_1.out.rows ho hb)
 clear S_1
 clear ho hb
 have hk_a_0_2 := S_2.out.cell 2 0 rfl rfl
 have hk_a_1_2 := S_2.out.cell 2 1 rfl rfl
 have hk_a_2_2 := S_2.out.cell 2 2 rfl rfl
 have hk_a_3_2 := S_2.out.cell 2 3 rfl rfl
 have hk_a_4_2 := S_2.out.cell 2 4 rfl rfl
 have hk_a_5_2 := S_2.out.cell 2 5 rfl rfl
 have hk_a_6_2 := S_2.out.cell 2 6 rfl rfl
 have hk_a_7_2 := S_2.out.cell 2 7 rfl rfl
 have hk_a_8_2 := S_2.out.cell 2 8 rfl rfl
 have hk_a_9_2 := S_2.out.cell 2 9 rfl rfl
 have hk_out_0_2 := S_2.out.cell 0 0 rfl rfl
 have hk_out_0_2f := S_2.out.froz 0 0 rfl rfl
 have hk_out_1_2 := S_2.out.cell 0 1 rfl rfl
 have hk_out_1_2f := S_2.out.froz 0 1 rfl rfl
 have hk_out_2_2 := S_2.out.cell 0 2 rfl rfl
 have hk_out_2_2f := S_2.out.froz 0 2 rfl rfl
 have hk_out_3_2 := S_2.out.cell 0 3 rfl rfl
 have hk_out_3_2f := S_2.out.froz 0 3 rfl rfl
 have hk_out_4_2 := S_2.out.cell 0 4 rfl rfl
 have hk_out_4_2f := S_2.out.froz 0 4 rfl rfl
 have hk_out_5_2 := S_2.out.cell 0 5 rfl rfl
 have hk_out_5_2f := S_2.out.froz 0 5 rfl rfl
 have hk_out_6_2 := S_2.out.cell 0 6 rfl rfl
 have hk_out_6_2f := S_2.out.froz 0 6 rfl rfl
 have hk_out_7_2 := S_2.out.cell 0 7 rfl rfl
 have hk_out_7_2f := S_2.out.froz 0 7 rfl rfl
 have hk_out_8_2 := S_2.out.cell 0 8 rfl rfl
 have hk_out_8_2f := S_2.out.froz 0 8 rfl rfl
 have hk_out_9_2 := S_2.out.cell 0 9 rfl rfl
 have hk_out_9_2f := S_2.out.froz 0 9 rfl rfl
 go_wp2_with fail
 clear hk_a_0_2 hk_a_1_2 hk_a_2_2 hk_a_3_2 hk_a_4_2 hk_a_5_2 hk_a_6_2 hk_a_7_2 hk_a_8_2 hk_a_9_2 hk_out_0_2 hk_out_0_2f hk_out_1_2 hk_out_1_2f hk_out_2_2 hk_out_2_2f hk_out_3_2 hk_out_3_2f hk_out_4_2 hk_out_4_2f hk_out_5_2 hk_out_5_2f hk_out_6_2 hk_out_6_2f hk_out_7_2 hk_out_7_2f hk_out_8_2 hk_out_8_2f hk_out_9_2 hk_out_9_2f
 have S_3 := Lib.hid (show St w (((w1.setCell ⟨w.heap.size + 1 + 1, 1, none⟩ (.bool P.s)).setCell ⟨w.heap.size + 1 + 1, 2, none⟩ ((.slice A1 n1 c1))).setCell ⟨w.heap.size + 1 + 1, 3, none⟩ ((.slice B1 m1 d1))) [(w.heap.size + 1 + 1, [.int .i64 A, .bool P.s, (.slice A1 n1 c1), (.slice B1 m1 d1), .bool false, .slice none 0 0, .slice none 0 0, .bool false, .slice none 0 0, .slice none 0 0]), (w.heap.size + 1, [.int .i64 0, .bool false, .slice none 0 0, .slice none 0 0, .bool false, .slice none 0 0, .slice none 0 0, .bool false, .slice none 0 0, .slice none 0 0]), (w.heap.size, [.int .i64 A, .bool P.s, p0, p1, .bool Q.s, q0, q1, .bool R.s, r0, r1])] [[((.slice A1 n1 c1), ints P.xs), ((.slice B1 m1 d1), ints P.ys)]] from (((S_2.out.set 0 1 (.bool P.s) rfl rfl).set 0 2 ((.slice A1 n1 c1)) rfl rfl).set 0 3 ((.slice B1 m1 d1)) rfl rfl))
 clear S_2
 obtain ⟨u1, hu1⟩ : ∃ u, (((w1.setCell ⟨w.heap.size + 1 + 1, 1, none⟩ (.bool P.s)).setCell ⟨w.heap.size + 1 + 1, 2, none⟩ ((.slice A1 n1 c1))).setCell ⟨w.heap.size + 1 + 1, 3, none⟩ ((.slice B1 m1 d1))) = u := ⟨_, rfl⟩
 rw [hu1] at S_3 ⊢
 clear hu1
 refine (toRat_f Q q0 q1 _ (S_3.out.frI HhQ.out) (by omega)).mono ?_
 rintro e w2 ⟨v2, u2, rfl, ho, hb⟩
 obtain ⟨A2, n2, c2, rfl⟩ := (ho.at_ 0 rfl).shape3
 obtain ⟨B2, m2, d2, rfl⟩ := (ho.at_ 1 rfl).shape3
 have S_4 := Lib.hid (S_3.out.rows ho hb)
 clear S_3
 clear ho hb
 have hk_a_0_4 := S_4.out.cell 2 0 rfl rfl
 have hk_a_1_4 := S_4.out.cell 2 1 rfl rfl
 have hk_a_2_4 := S_4.out.cell 2 2 rfl rfl
 have hk_a_3_4 := S_4.out.cell 2 3 rfl rfl
 have hk_a_4_4 := S_4.out.cell 2 4 rfl rfl
 have hk_a_5_4 := S_4.out.cell 2 5 rfl rfl
 have hk_a_6_4 := S_4.out.cell 2 6 rfl rfl
 have hk_a_7_4 := S_4.out.cell 2 7 rfl rfl
 have hk_a_8_4 := S_4.out.cell 2 8 rfl rfl
 have hk_a_9_4 := S_4.out.cell 2 9 rfl rfl
 have hk_out_0_4 := S_4.out.cell 0 0 rfl rfl
 have hk_out_0_4f := S_4.out.froz 0 0 rfl rfl
 have hk_out_1_4 := S_4.out.cell 0 1 rfl rfl
 have hk_out_1_4f := S_4.out.froz 0 1 rfl rfl
 have hk_out_2_4 := S_4.out.cell 0 2 rfl rfl
 have hk_out_2_4f := S_4.out.froz 0 2 rfl rfl
 have hk_out_3_4 := S_4.out.cell 0 3 rfl rfl
 have hk_out_3_4f := S_4.out.froz 0 3 rfl rfl
 have hk_out_4_4 := S_4.out.cell 0 4 rfl rfl
 have hk_out_4_4f := S_4.out.froz 0 4 rfl rfl
 have hk_out_5_4 := S_4.out.cell 0 5 rfl rfl
 have hk_out_5_4f := S_4.out.froz 0 5 rfl rfl
 have hk_out_6_4 := S_4.out.cell 0 6 rfl rfl
 have hk_out_6_4f := S_4.out.froz 0 6 rfl rfl
 have hk_out_7_4 := S_4.out.cell 0 7 rfl rfl
 have hk_out_7_4f := S_4.out.froz 0 7 rfl rfl
 have hk_out_8_4 := S_4.out.cell 0 8 rfl rfl
 have hk_out_8_4f := S_4.out.froz 0 8 rfl rfl
 have hk_out_9_4 := S_4.out.cell 0 9 rfl rfl
 have hk_out_9_4f := S_4.out.froz 0 9 rfl rfl
 go_wp2_with fail
 clear hk_a_0_4 hk_a_1_4 hk_a_2_4 hk_a_3_4 hk_a_4_4 hk_a_5_4 hk_a_6_4 hk_a_7_4 hk_a_8_4 hk_a_9_4 hk_out_0_4 hk_out_0_4f hk_out_1_4 hk_out_1_4f hk_out_2_4 hk_out_2_4f hk_out_3_4 hk_out_3_4f hk_out_4_4 hk_out_4_4f hk_out_5_4 hk_out_5_4f hk_out_6_4 hk_out_6_4f hk_out_7_4 hk_out_7_4f hk_out_8_4 hk_out_8_4f hk_out_9_4 hk_out_9_4f
 have S_5 := Lib.hid (show St w (((w2.setCell ⟨w.heap.size + 1 + 1, 4, none⟩ (.bool Q.s)).setCell ⟨w.heap.size + 1 + 1, 5, none⟩ ((.slice A2 n2 c2))).setCell ⟨w.heap.size + 1 + 1, 6, none⟩ ((.slice B2 m2 d2))) [(w.heap.size + 1 + 1, [.int .i64 A, .bool P.s, (.slice A1 n1 c1), (.slice B1 m1 d1), .bool Q.s, (.slice A2 n2 c2), (.slice B2 m2 d2), .bool false, .slice none 0 0, .slice none 0 0]), (w.heap.size + 1, [.int .i64 0, .bool false, .slice none 0 0, .slice none 0 0, .bool false, .slice none 0 0, .slice none 0 0, .bool false, .slice none 0 0, .slice none 0 0]), (w.heap.size, [.int .i64 A, .bool P.s, p0, p1, .bool Q.s, q0, q1, .bool R.s, r0, r1])] [[((.slice A2 n2 c2), ints Q.xs), ((.slice B2 m2 d2), ints Q.ys)], [((.slice A1 n1 c1), ints P.xs), ((.slice B1 m1 d1), ints P.ys)]] from (((S_4.out.set 0 4 (.bool Q.s) rfl rfl).set 0 5 ((.slice A2 n2 c2)) rfl rfl).set 0 6 ((.slice B2 m2 d2)) rfl rfl))
 clear S_4
 obtain ⟨u2, hu2⟩ : ∃ u, (((w2.setCell ⟨w.heap.size + 1 + 1, 4, none⟩ (.bool Q.s)).setCell ⟨w.heap.size + 1 + 1, 5, none⟩ ((.slice A2 n2 c2))).setCell ⟨w.heap.size + 1 + 1, 6, none⟩ ((.slice B2 m2 d2))) = u := ⟨_, rfl⟩
 rw [hu2] at S_5 ⊢
 clear hu2
 refine (toRat_f R r0 r1 _ (S_5.out.frI HhR.out) (by omega)).mono ?_
 rintro e w3 ⟨v3, u3, rfl, ho, hb⟩
 obtain ⟨A3, n3, c3, rfl⟩ := (ho.at_ 0 rfl).shape3
 obtain ⟨B3, m3, d3, rfl⟩ := (ho.at_ 1 rfl).shape3
 have S_6 := Lib.hid (S_5.out.rows ho hb)
 clear S_5
 clear ho hb
 have hk_out_0_6 := S_6.out.cell 0 0 rfl rfl
 have hk_out_0_6f := S_6.out.froz 0 0 rfl rfl
 have hk_out_1_6 := S_6.out.cell 0 1 rfl rfl
 have hk_out_1_6f := S_6.out.froz 0 1 rfl rfl
 have hk_out_2_6 := S_6.out.cell 0 2 rfl rfl
 have hk_out_2_6f := S_6.out.froz 0 2 rfl rfl
 have hk_out_3_6 := S_6.out.cell 0 3 rfl rfl
 have hk_out_3_6f := S_6.out.froz 0 3 rfl rfl
 have hk_out_4_6 := S_6.out.cell 0 4 rfl rfl
 have hk_out_4_6f := S_6.out.froz 0 4 rfl rfl
 have hk_out_5_6 := S_6.out.cell 0 5 rfl rfl
 have hk_out_5_6f := S_6.out.froz 0 5 rfl rfl
 have hk_out_6_6 := S_6.out.cell 0 6 rfl rfl
 have hk_out_6_6f := S_6.out.froz 0 6 rfl rfl
 have hk_out_7_6 := S_6.out.cell 0 7 rfl rfl
 have hk_out_7_6f := S_6.out.froz 0 7 rfl rfl
 have hk_out_8_6 := S_6.out.cell 0 8 rfl rfl
 have hk_out_8_6f := S_6.out.froz 0 8 rfl rfl
 have hk_out_9_6 := S_6.out.cell 0 9 rfl rfl
 have hk_out_9_6f := S_6.out.froz 0 9 rfl rfl
 have hk_res_0_6 := S_6.out.cell 1 0 rfl rfl
 have hk_res_0_6f := S_6.out.froz 1 0 rfl rfl
 have hk_res_1_6 := S_6.out.cell 1 1 rfl rfl
 have hk_res_1_6f := S_6.out.froz 1 1 rfl rfl
 have hk_res_2_6 := S_6.out.cell 1 2 rfl rfl
 have hk_res_2_6f := S_6.out.froz 1 2 rfl rfl
 have hk_res_3_6 := S_6.out.cell 1 3 rfl rfl
 have hk_res_3_6f := S_6.out.froz 1 3 rfl rfl
 have hk_res_4_6 := S_6.out.cell 1 4 rfl rfl
 have hk_res_4_6f := S_6.out.froz 1 4 rfl rfl
 have hk_res_5_6 := S_6.out.cell 1 5 rfl rfl
 have hk_res_5_6f := S_6.out.froz 1 5 rfl rfl
 have hk_res_6_6 := S_6.out.cell 1 6 rfl rfl
 have hk_res_6_6f := S_6.out.froz 1 6 rfl rfl
 have hk_res_7_6 := S_6.out.cell 1 7 rfl rfl
 have hk_res_7_6f := S_6.out.froz 1 7 rfl rfl
 have hk_res_8_6 := S_6.out.cell 1 8 rfl rfl
 have hk_res_8_6f := S_6.out.froz 1 8 rfl rfl
 have hk_res_9_6 := S_6.out.cell 1 9 rfl rfl
 have hk_res_9_6f := S_6.out.froz 1 9 rfl rfl
 go_wp2
 have SR := Lib.hid ((((S_6.out.set 0 7 (.bool R.s) rfl rfl).set 0 8 (.slice A3 n3 c3) rfl rfl).set 0 9 (.slice B3 m3 d3) rfl rfl).setAll 1 [.int .i64 A, .bool P.s, (.slice A1 n1 c1), (.slice B1 m1 d1), .bool Q.s, (.slice A2 n2 c2), (.slice B2 m2 d2), .bool R.s, (.slice A3 n3 c3), (.slice B3 m3 d3)] rfl rfl)
 have hr0 := S_6.out.cell 1 0 rfl rfl
 have hr1 := S_6.out.cell 1 1 rfl rfl
 have hr2 := S_6.out.cell 1 2 rfl rfl
 have hr3 := S_6.out.cell 1 3 rfl rfl
 have hr4 := S_6.out.cell 1 4 rfl rfl
 have hr5 := S_6.out.cell 1 5 rfl rfl
 have hr6 := S_6.out.cell 1 6 rfl rfl
 have hr7 := S_6.out.cell 1 7 rfl rfl
 have hr8 := S_6.out.cell 1 8 rfl rfl
 have hr9 := S_6.out.cell 1 9 rfl rfl
 exact bodyPost_ret (v := .agg #[.int .i64 A, .bool P.s, (.slice A1 n1 c1), (.slice B1 m1 d1), .bool Q.s, (.slice A2 n2 c2), (.slice B2 m2 d2), .bool R.s, (.slice A3 n3 c3), (.slice B3 m3 d3)]) (by simp [results, Tryz.results94, go_sem, hr0, hr1, hr2, hr3, hr4, hr5, hr6, hr7, hr8, hr9]) rfl ⟨_, _, _, _, _, _, rfl, SR.out.pick [2, 1, 0] [[((.slice A1 n1 c1), ints P.xs), ((.slice B1 m1 d1), ints P.ys)], [((.slice A2 n2 c2), ints Q.xs), ((.slice B2 m2 d2), ints Q.ys)], [((.slice A3 n3 c3), ints R.xs), ((.slice B3 m3 d3), ints R.ys)]] (by decide) rfl, SR.out.below⟩
set_option maxRecDepth 100000 in
set_option maxHeartbeats 4000000 in
theorem eqParent_f (A : Int) (P Q R : Fr) (p0 p1 q0 q1 r0 r1 : Value) (p2 p3 q2 q3 r2 r3 : Value) (w : World) (hP : FrI w P p0 p1) (hQ : FrI w Q q0 q1) (hR : FrI w R r0 r1) (gP : FrI w P p2 p3) (gQ : FrI w Q q2 q3) (gR : FrI w R r2 r3) :
   Calls Tryz.prog 97 #[.agg #[.int .i64 A, .bool P.s, p0, p1, .bool Q.s, q0, q1, .bool R.s, r0, r1], .agg #[.int .i64 A, .bool P.s, p2, p3, .bool Q.s, q2, q3, .bool R.s, r2, r3]] w fun e w' => e = .returned (.bool true) ∧ Below w.heap.size w w' := by
 have HhP := Lib.hid hP
 have HhQ := Lib.hid hQ
 have HhR := Lib.hid hR
 clear hP hQ hR
 have HgP := Lib.hid gP
 have HgQ := Lib.hid gQ
 have HgR := Lib.hid gR
 clear gP gQ gR
 have S_1 := Lib.hid (show St w ((w.alloc (.cells #[.int .i64 A, .bool P.s, p0, p1, .bool Q.s, q0, q1, .bool R.s, r0, r1] 63)).alloc (.cells #[.int .i64 A, .bool P.s, p2, p3, .bool Q.s, q2, q3, .bool R.s, r2, r3] 63)) [(w.heap.size + 1, [.int .i64 A, .bool P.s, p2, p3, .bool Q.s, q2, q3, .bool R.s, r2, r3]), (w.heap.size, [.int .i64 A, .bool P.s, p0, p1, .bool Q.s, q0, q1, .bool R.s, r0, r1])] [] from (((St.start w).alloc_at (b := w.heap.size) [.int .i64 A, .bool P.s, p0, p1, .bool Q.s, q0, q1, .bool R.s, r0, r1] 63 (by first | rfl | simp)).alloc_at (b := w.heap.size + 1) [.int .i64 A, .bool P.s, p2, p3, .bool Q.s, q2, q3, .bool R.s, r2, r3] 63 (by first | rfl | simp)))
 have hne_b_a : w.heap.size + 1 ≠ w.heap.size := by omega
 have hne_a_b : w.heap.size ≠ w.heap.size + 1 := by omega
 go_enter Tryz.func97, Tryz.ntmps97
 go_wp2_with fail
 refine (eqRat_f P p0 p1 _ p2 p3 (S_1.out.frI HhP.out) (S_1.out.frI HgP.out)).mono ?_
 rintro e w1 ⟨rfl, hb⟩
 have S_2 := Lib.hid (S_1.out.call hb)
 clear S_1
 clear hb
 have hk_a_0_2 := S_2.out.cell 1 0 rfl rfl
 have hk_a_1_2 := S_2.out.cell 1 1 rfl rfl
 have hk_a_2_2 := S_2.out.cell 1 2 rfl rfl
 have hk_a_3_2 := S_2.out.cell 1 3 rfl rfl
 have hk_a_4_2 := S_2.out.cell 1 4 rfl rfl
 have hk_a_5_2 := S_2.out.cell 1 5 rfl rfl
 have hk_a_6_2 := S_2.out.cell 1 6 rfl rfl
 have hk_a_7_2 := S_2.out.cell 1 7 rfl rfl
 have hk_a_8_2 := S_2.out.cell 1 8 rfl rfl
 have hk_a_9_2 := S_2.out.cell 1 9 rfl rfl
 have hk_b_0_2 := S_2.out.cell 0 0 rfl rfl
 have hk_b_1_2 := S_2.out.cell 0 1 rfl rfl
 have hk_b_2_2 := S_2.out.cell 0 2 rfl rfl
 have hk_b_3_2 := S_2.out.cell 0 3 rfl rfl
 have hk_b_4_2 := S_2.out.cell 0 4 rfl rfl
 have hk_b_5_2 := S_2.out.cell 0 5 rfl rfl
 have hk_b_6_2 := S_2.out.cell 0 6 rfl rfl
 have hk_b_7_2 := S_2.out.cell 0 7 rfl rfl
 have hk_b_8_2 := S_2.out.cell 0 8 rfl rfl
 have hk_b_9_2 := S_2.out.cell 0 9 rfl rfl
 go_wp2_with fail
 refine (eqRat_f Q q0 q1 _ q2 q3 (S_2.out.frI HhQ.out) (S_2.out.frI HgQ.out)).mono ?_
 rintro e w2 ⟨rfl, hb⟩
 have S_3 := Lib.hid (S_2.out.call hb)
 clear S_2
 clear hb
 clear hk_a_0_2 hk_a_1_2 hk_a_2_2 hk_a_3_2 hk_a_4_2 hk_a_5_2 hk_a_6_2 hk_a_7_2 hk_a_8_2 hk_a_9_2 hk_b_0_2 hk_b_1_2 hk_b_2_2 hk_b_3_2 hk_b_4_2 hk_b_5_2 hk_b_6_2 hk_b_7_2 hk_b_8_2 hk_b_9_2
 have hk_a_0_3 := S_3.out.cell 1 0 rfl rfl
 have hk_a_1_3 := S_3.out.cell 1 1 rfl rfl
 have hk_a_2_3 := S_3.out.cell 1 2 rfl rfl
 have hk_a_3_3 := S_3.out.cell 1 3 rfl rfl
 have hk_a_4_3 := S_3.out.cell 1 4 rfl rfl
 have hk_a_5_3 := S_3.out.cell 1 5 rfl rfl
 have hk_a_6_3 := S_3.out.cell 1 6 rfl rfl
 have hk_a_7_3 := S_3.out.cell 1 7 rfl rfl
 have hk_a_8_3 := S_3.out.cell 1 8 rfl rfl
 have hk_a_9_3 := S_3.out.cell 1 9 rfl rfl
 have hk_b_0_3 := S_3.out.cell 0 0 rfl rfl
 have hk_b_1_3 := S_3.out.cell 0 1 rfl rfl
 have hk_b_2_3 := S_3.out.cell 0 2 rfl rfl
 have hk_b_3_3 := S_3.out.cell 0 3 rfl rfl
 have hk_b_4_3 := S_3.out.cell 0 4 rfl rfl
 have hk_b_5_3 := S_3.out.cell 0 5 rfl rfl
 have hk_b_6_3 := S_3.out.cell 0 6 rfl rfl
 have hk_b_7_3 := S_3.out.cell 0 7 rfl rfl
 have hk_b_8_3 := S_3.out.cell 0 8 rfl rfl
 have hk_b_9_3 := S_3.out.cell 0 9 rfl rfl
 go_wp2_with fail
 refine (eqRat_f R r0 r1 _ r2 r3 (S_3.out.frI HhR.out) (S_3.out.frI HgR.out)).mono ?_
 rintro e w3 ⟨rfl, hb⟩
 have S_4 := Lib.hid (S_3.out.call hb)
 clear S_3
 clear hb
 clear hk_a_0_3 hk_a_1_3 hk_a_2_3 hk_a_3_3 hk_a_4_3 hk_a_5_3 hk_a_6_3 hk_a_7_3 hk_a_8_3 hk_a_9_3 hk_b_0_3 hk_b_1_3 hk_b_2_3 hk_b_3_3 hk_b_4_3 hk_b_5_3 hk_b_6_3 hk_b_7_3 hk_b_8_3 hk_b_9_3
 go_wp2
 go_ret
 exact ⟨rfl, S_4.out.below⟩
set_option maxRecDepth 100000 in
set_option maxHeartbeats 4000000 in
theorem szParentS_any (A : Option Addr) (n c : Nat) (zs : List Rc) (k : Int) (w : World) (h0 : 0 ≤ k) (h1 : k ≤ 1048576) (hA : RRow 10 1 3 w A n zs) (hn : n ≤ 9223372036854775807) :
   Calls Tryz.prog 51 #[.slice A n c, .int .i64 k] w fun e w' => e = .returned (.int .i64 (szOf k (n + lensR zs))) ∧ Below w.heap.size w w' := by
 have HA := Lib.hid hA
 clear hA
 by_cases h : k < n
 · rw [szOf_neg (show k < ((n + lensR zs : Nat) : Int) by omega)]
   go_enter Tryz.func51, Tryz.ntmps51
   go_wp2
   go_ret
   exact ⟨rfl, Below.refl _ _⟩
 · go_enter Tryz.func51, Tryz.ntmps51
   go_wp2
   go_loopw [5, 1] (fun i l wr => ∃ (j : Nat) (m : Int), j ≤ n ∧ i = .int .i64 j ∧ l = .int .i64 m ∧ m = k - n - (lensR (zs.take j) : Int) ∧ 0 ≤ m ∧ Below w.heap.size w wr) (fun i _ _ => n - (intOf i).toNat)
   case atStart => exact ⟨0, k - n, Nat.zero_le _, rfl, rfl, by simp [lensR], by omega, Below.refl _ _⟩
   case round =>
     obtain ⟨j, m, hj, rfl, rfl, hm, hm0, hb⟩ := hrel
     have HB := Lib.hid hb
     have HM := Lib.hid hm
     have hm1 : m ≤ 1048576 := by omega
     clear hb hm
     by_cases hlt : j < n
     · obtain ⟨g, o, z, rfl, hg, hz, hr, hs, hc⟩ := (HA.out.below HB.out).at_ hlt
       obtain ⟨ZA, ZP, z0, z1, ZQ, z2, z3, ZR, z4, z5, rfl⟩ := Rc.sh13 hs
       have e1 := lensR_take_succ hz
       have e2 := lensR_take_le zs (j + 1)
       have HR := Lib.hid hr
       have hlen : Rc.len ⟨[ZA], [(ZP, z0, z1), (ZQ, z2, z3), (ZR, z4, z5)]⟩ = ZP.len + ZQ.len + ZR.len := by simp [Rc.len, Rc.lens]; try omega
       rw [hlen] at e1
       clear hz hr hs hlen
       have c0 : wr.cell? ⟨g, o + j * 10, none⟩ = some (.int .i64 ZA) := hc 0 _ rfl
       have c1 : wr.cell? ⟨g, o + j * 10 + 1, none⟩ = some (.bool ZP.s) := hc 1 _ rfl
       have c2 : wr.cell? ⟨g, o + j * 10 + 2, none⟩ = some (z0) := hc 2 _ rfl
       have c3 : wr.cell? ⟨g, o + j * 10 + 3, none⟩ = some (z1) := hc 3 _ rfl
       have c4 : wr.cell? ⟨g, o + j * 10 + 4, none⟩ = some (.bool ZQ.s) := hc 4 _ rfl
       have c5 : wr.cell? ⟨g, o + j * 10 + 5, none⟩ = some (z2) := hc 5 _ rfl
       have c6 : wr.cell? ⟨g, o + j * 10 + 6, none⟩ = some (z3) := hc 6 _ rfl
       have c7 : wr.cell? ⟨g, o + j * 10 + 7, none⟩ = some (.bool ZR.s) := hc 7 _ rfl
       have c8 : wr.cell? ⟨g, o + j * 10 + 8, none⟩ = some (z4) := hc 8 _ rfl
       have c9 : wr.cell? ⟨g, o + j * 10 + 9, none⟩ = some (z5) := hc 9 _ rfl
       clear hc
       go_wp2_with fail
       refine (szParent_f ZA ZP ZQ ZR z0 z1 z2 z3 z4 z5 _ m hm0 hm1 (HR.out (ZP, z0, z1) (by simp)) (HR.out (ZQ, z2, z3) (by simp)) (HR.out (ZR, z4, z5) (by simp))).mono ?_
       rintro e w2 ⟨rfl, hb⟩
       have HB2 := Lib.hid (HB.out.trans (hb.mono HB.out.size))
       clear hb c0 c1 c2 c3 c4 c5 c6 c7 c8 c9
       obtain ⟨zl, hzl⟩ : ∃ q : Nat, ZP.len + ZQ.len + ZR.len = q := ⟨_, rfl⟩
       rw [hzl] at e1 ⊢
       clear hzl
       by_cases hs : m < (zl : Int)
       · rw [szOf_neg hs]
         have HE := Lib.hid (show szOf k (n + lensR zs) = -1 from szOf_neg (by have := HM.out; omega))
         clear e1 e2 hs
         go_wp2
         go_ret
         exact ⟨ret_int HE.out.symm, HB2.out⟩
       · rw [szOf_pos hs]
         have HE := Lib.hid (show m - (zl : Int) = k - n - (lensR (zs.take (j + 1)) : Int) by have := HM.out; omega)
         obtain ⟨m2, hm2⟩ : ∃ q : Int, m - (zl : Int) = q := ⟨_, rfl⟩
         have hm3 : 0 ≤ m2 := by omega
         rw [hm2] at HE ⊢
         clear e1 e2 hs hm2
         go_wp2
         exact ⟨⟨j + 1, m2, by omega, by go_num, rfl, HE.out, hm3, HB2.out⟩, by simp [intOf]; omega⟩
     · obtain rfl : j = n := by omega
       have hl : zs.take j = zs := by rw [List.take_of_length_le (by rw [HA.out.len]; exact Nat.le_refl _)]
       have HE := Lib.hid (show m = szOf k (j + lensR zs) by rw [szOf_pos (by have := HM.out; rw [hl] at this; omega)]; have := HM.out; rw [hl] at this; omega)
       clear hl
       go_wp2
       go_ret
       exact ⟨ret_int HE.out, HB.out⟩
set_option maxRecDepth 100000 in
set_option maxHeartbeats 4000000 in
theorem eqParentS_same (A B : Option Addr) (n c d : Nat) (ys zs : List Rc) (w : World) (hA : RRow 10 1 3 w A n ys) (hB : RRow 10 1 3 w B n zs) (hlk : dats ys = dats zs) (hn : n ≤ 1048576) :
   Calls Tryz.prog 63 #[.slice A n c, .slice B n d] w fun e w' => e = .returned (.bool true) ∧ Below w.heap.size w w' := by
 have HA := Lib.hid hA
 have HB := Lib.hid hB
 have HK := Lib.hid hlk
 clear hA hB hlk
 go_enter Tryz.func63, Tryz.ntmps63
 go_wp2
 go_loopw [5] (fun i wr => ∃ k : Nat, k ≤ n ∧ i = .int .i64 k ∧ Below w.heap.size w wr) (fun i _ => n - (intOf i).toNat)
 case atStart => exact ⟨0, Nat.zero_le _, rfl, Below.refl _ _⟩
 case round =>
   obtain ⟨k, hk, rfl, hb⟩ := hrel
   have HW := Lib.hid hb
   clear hb
   by_cases hlt : k < n
   · obtain ⟨g, o, y, rfl, hg, hy, hry, hsy, hc⟩ := (HA.out.below HW.out).at_ hlt
     obtain ⟨g', o', z, rfl, hg', hz, hrz, hsz, hd⟩ := (HB.out.below HW.out).at_ hlt
     have hl := dats_at HK.out hy hz
     obtain ⟨YA, YP, y0, y1, YQ, y2, y3, YR, y4, y5, rfl⟩ := Rc.sh13 hsy
     obtain ⟨ZA, ZP, z0, z1, ZQ, z2, z3, ZR, z4, z5, rfl⟩ := Rc.sh13 hsz
     simp only [Rc.dat, List.map_cons, List.map_nil, Prod.mk.injEq, List.cons.injEq, and_true] at hl
     obtain ⟨rfl, ⟨rfl, rfl, rfl⟩⟩ := hl
     have HRY := Lib.hid hry
     have HRZ := Lib.hid hrz
     have hk0 : (0 : Int) ≤ (k : Int) := by omega
     have hk1 : (k : Int) < (n : Int) := by omega
     have c0 : wr.cell? ⟨g, o + k * 10, none⟩ = some (.int .i64 YA) := hc 0 _ rfl
     have c1 : wr.cell? ⟨g, o + k * 10 + 1, none⟩ = some (.bool YP.s) := hc 1 _ rfl
     have c2 : wr.cell? ⟨g, o + k * 10 + 2, none⟩ = some (y0) := hc 2 _ rfl
     have c3 : wr.cell? ⟨g, o + k * 10 + 3, none⟩ = some (y1) := hc 3 _ rfl
     have c4 : wr.cell? ⟨g, o + k * 10 + 4, none⟩ = some (.bool YQ.s) := hc 4 _ rfl
     have c5 : wr.cell? ⟨g, o + k * 10 + 5, none⟩ = some (y2) := hc 5 _ rfl
     have c6 : wr.cell? ⟨g, o + k * 10 + 6, none⟩ = some (y3) := hc 6 _ rfl
     have c7 : wr.cell? ⟨g, o + k * 10 + 7, none⟩ = some (.bool YR.s) := hc 7 _ rfl
     have c8 : wr.cell? ⟨g, o + k * 10 + 8, none⟩ = some (y4) := hc 8 _ rfl
     have c9 : wr.cell? ⟨g, o + k * 10 + 9, none⟩ = some (y5) := hc 9 _ rfl
     have d0 : wr.cell? ⟨g', o' + k * 10, none⟩ = some (.int .i64 YA) := hd 0 _ rfl
     have d1 : wr.cell? ⟨g', o' + k * 10 + 1, none⟩ = some (.bool YP.s) := hd 1 _ rfl
     have d2 : wr.cell? ⟨g', o' + k * 10 + 2, none⟩ = some (z0) := hd 2 _ rfl
     have d3 : wr.cell? ⟨g', o' + k * 10 + 3, none⟩ = some (z1) := hd 3 _ rfl
     have d4 : wr.cell? ⟨g', o' + k * 10 + 4, none⟩ = some (.bool YQ.s) := hd 4 _ rfl
     have d5 : wr.cell? ⟨g', o' + k * 10 + 5, none⟩ = some (z2) := hd 5 _ rfl
     have d6 : wr.cell? ⟨g', o' + k * 10 + 6, none⟩ = some (z3) := hd 6 _ rfl
     have d7 : wr.cell? ⟨g', o' + k * 10 + 7, none⟩ = some (.bool YR.s) := hd 7 _ rfl
     have d8 : wr.cell? ⟨g', o' + k * 10 + 8, none⟩ = some (z4) := hd 8 _ rfl
     have d9 : wr.cell? ⟨g', o' + k * 10 + 9, none⟩ = some (z5) := hd 9 _ rfl
     clear hc hd hry hrz hy hz hsy hsz
     go_wp2
     go_region_held3 (fun w' => w'.cell? ⟨g, o + k * 10, none⟩ = some (.int .i64 YA) ∧ w'.cell? ⟨g, o + k * 10 + 1, none⟩ = some (.bool YP.s) ∧ w'.cell? ⟨g, o + k * 10 + 2, none⟩ = some (y0) ∧ w'.cell? ⟨g, o + k * 10 + 3, none⟩ = some (y1) ∧ w'.cell? ⟨g, o + k * 10 + 4, none⟩ = some (.bool YQ.s) ∧ w'.cell? ⟨g, o + k * 10 + 5, none⟩ = some (y2) ∧ w'.cell? ⟨g, o + k * 10 + 6, none⟩ = some (y3) ∧ w'.cell? ⟨g, o + k * 10 + 7, none⟩ = some (.bool YR.s) ∧ w'.cell? ⟨g, o + k * 10 + 8, none⟩ = some (y4) ∧ w'.cell? ⟨g, o + k * 10 + 9, none⟩ = some (y5) ∧ w'.cell? ⟨g', o' + k * 10, none⟩ = some (.int .i64 YA) ∧ w'.cell? ⟨g', o' + k * 10 + 1, none⟩ = some (.bool YP.s) ∧ w'.cell? ⟨g', o' + k * 10 + 2, none⟩ = some (z0) ∧ w'.cell? ⟨g', o' + k * 10 + 3, none⟩ = some (z1) ∧ w'.cell? ⟨g', o' + k * 10 + 4, none⟩ = some (.bool YQ.s) ∧ w'.cell? ⟨g', o' + k * 10 + 5, none⟩ = some (z2) ∧ w'.cell? ⟨g', o' + k * 10 + 6, none⟩ = some (z3) ∧ w'.cell? ⟨g', o' + k * 10 + 7, none⟩ = some (.bool YR.s) ∧ w'.cell? ⟨g', o' + k * 10 + 8, none⟩ = some (z4) ∧ w'.cell? ⟨g', o' + k * 10 + 9, none⟩ = some (z5)) (go_keep)
       (first
         | (go_at_call 97
            refine (eqParent_f YA YP YQ YR y0 y1 y2 y3 y4 y5 z0 z1 z2 z3 z4 z5 _ (HRY.out.below (Below.refl _ _).drew (YP, y0, y1) (by simp)) (HRY.out.below (Below.refl _ _).drew (YQ, y2, y3) (by simp)) (HRY.out.below (Below.refl _ _).drew (YR, y4, y5) (by simp)) (HRZ.out.below (Below.refl _ _).drew (YP, z0, z1) (by simp)) (HRZ.out.below (Below.refl _ _).drew (YQ, z2, z3) (by simp)) (HRZ.out.below (Below.refl _ _).drew (YR, z4, z5) (by simp))).mono ?_
            rintro e w2 ⟨rfl, hb⟩
            have HW2 := Lib.hid (HW.out.drew.trans (hb.mono HW.out.drew.size))
            have ec0 := (hb.cell (p := ⟨g, o + k * 10, none⟩) hg).trans c0
            have ec1 := (hb.cell (p := ⟨g, o + k * 10 + 1, none⟩) hg).trans c1
            have ec2 := (hb.cell (p := ⟨g, o + k * 10 + 2, none⟩) hg).trans c2
            have ec3 := (hb.cell (p := ⟨g, o + k * 10 + 3, none⟩) hg).trans c3
            have ec4 := (hb.cell (p := ⟨g, o + k * 10 + 4, none⟩) hg).trans c4
            have ec5 := (hb.cell (p := ⟨g, o + k * 10 + 5, none⟩) hg).trans c5
            have ec6 := (hb.cell (p := ⟨g, o + k * 10 + 6, none⟩) hg).trans c6
            have ec7 := (hb.cell (p := ⟨g, o + k * 10 + 7, none⟩) hg).trans c7
            have ec8 := (hb.cell (p := ⟨g, o + k * 10 + 8, none⟩) hg).trans c8
            have ec9 := (hb.cell (p := ⟨g, o + k * 10 + 9, none⟩) hg).trans c9
            have ed0 := (hb.cell (p := ⟨g', o' + k * 10, none⟩) hg').trans d0
            have ed1 := (hb.cell (p := ⟨g', o' + k * 10 + 1, none⟩) hg').trans d1
            have ed2 := (hb.cell (p := ⟨g', o' + k * 10 + 2, none⟩) hg').trans d2
            have ed3 := (hb.cell (p := ⟨g', o' + k * 10 + 3, none⟩) hg').trans d3
            have ed4 := (hb.cell (p := ⟨g', o' + k * 10 + 4, none⟩) hg').trans d4
            have ed5 := (hb.cell (p := ⟨g', o' + k * 10 + 5, none⟩) hg').trans d5
            have ed6 := (hb.cell (p := ⟨g', o' + k * 10 + 6, none⟩) hg').trans d6
            have ed7 := (hb.cell (p := ⟨g', o' + k * 10 + 7, none⟩) hg').trans d7
            have ed8 := (hb.cell (p := ⟨g', o' + k * 10 + 8, none⟩) hg').trans d8
            have ed9 := (hb.cell (p := ⟨g', o' + k * 10 + 9, none⟩) hg').trans d9
            clear hb))
     all_goals go_wp2
     all_goals exact ⟨⟨k + 1, by omega, by go_num, HW2.out⟩, by simp [intOf]; omega⟩
   · go_wp2
     go_ret
     exact ⟨rfl, HW.out⟩
def zerosParent : Nat → List Value
 | 0 => []
 | n + 1 => [.int .i64 0, .bool false, .slice none 0 0, .slice none 0 0, .bool false, .slice none 0 0, .slice none 0 0, .bool false, .slice none 0 0, .slice none 0 0] ++ zerosParent n
theorem zerosParent_len (n : Nat) : (zerosParent n).length = n * 10 := by
 induction n with
 | zero => rfl
 | succ n ih => simp [zerosParent, ih]; omega
theorem infoParent : (Tryz.prog.info? 63).map (fun i => (i.zero, i.size, i.bytes)) = some (some (.agg #[.int .i64 0, .bool false, .slice none 0 0, .slice none 0 0, .bool false, .slice none 0 0, .slice none 0 0, .bool false, .slice none 0 0, .slice none 0 0]), 10, 176) := by kernel_rfl
theorem zerosParent_at (n i : Nat) (h : i < n * 10) : (zerosParent n)[i]? = some ((#[.int .i64 0, .bool false, .slice none 0 0, .slice none 0 0, .bool false, .slice none 0 0, .slice none 0 0, .bool false, .slice none 0 0, .slice none 0 0] : Array Value)[i % 10]!) := by
 induction n generalizing i with
 | zero => omega
 | succ n ih =>
   by_cases hi : i < 10
   · rw [show zerosParent (n + 1) = [.int .i64 0, .bool false, .slice none 0 0, .slice none 0 0, .bool false, .slice none 0 0, .slice none 0 0, .bool false, .slice none 0 0, .slice none 0 0] ++ zerosParent n from rfl, List.getElem?_append_left (by simpa using hi), Nat.mod_eq_of_lt hi]
     match i, hi with
     | 0, _ => rfl
     | 1, _ => rfl
     | 2, _ => rfl
     | 3, _ => rfl
     | 4, _ => rfl
     | 5, _ => rfl
     | 6, _ => rfl
     | 7, _ => rfl
     | 8, _ => rfl
     | 9, _ => rfl
   · rw [show zerosParent (n + 1) = [.int .i64 0, .bool false, .slice none 0 0, .slice none 0 0, .bool false, .slice none 0 0, .slice none 0 0, .bool false, .slice none 0 0, .slice none 0 0] ++ zerosParent n from rfl, List.getElem?_append_right (by simpa using hi)]
     have := ih (i - 10) (by omega)
     rw [show ([.int .i64 0, .bool false, .slice none 0 0, .slice none 0 0, .bool false, .slice none 0 0, .slice none 0 0, .bool false, .slice none 0 0, .slice none 0 0] : List Value).length = 10 from rfl, this, show (i - 10) % 10 = i % 10 by omega]
theorem madeParent (n : Nat) : (madeCells (Value.agg #[.int .i64 0, .bool false, .slice none 0 0, .slice none 0 0, .bool false, .slice none 0 0, .slice none 0 0, .bool false, .slice none 0 0, .slice none 0 0]).cells (n * 10)).toList = zerosParent n := by
 apply List.ext_getElem?
 intro i
 by_cases hi : i < n * 10
 · rw [zerosParent_at n i hi]
   simp [madeCells, hi, Value.cells]
 · rw [List.getElem?_eq_none (by simp [madeCells]; omega), List.getElem?_eq_none (by rw [zerosParent_len]; omega)]
theorem midParent {X rest : List Value} {m : Nat} (hX : X.length = m) (i : Nat) {v : Value} (hv : ([.int .i64 0, .bool false, .slice none 0 0, .slice none 0 0, .bool false, .slice none 0 0, .slice none 0 0, .bool false, .slice none 0 0, .slice none 0 0] : List Value)[i]? = some v) : (X ++ ([.int .i64 0, .bool false, .slice none 0 0, .slice none 0 0, .bool false, .slice none 0 0, .slice none 0 0, .bool false, .slice none 0 0, .slice none 0 0] ++ rest))[m + i]? = some v := by
 subst hX
 have hi : i < 10 := by have := (List.getElem?_eq_some_iff.mp hv).1; simpa using this
 rw [List.getElem?_append_right (by omega), Nat.add_sub_cancel_left, List.getElem?_append_left (by simpa using hi)]; exact hv
def OwnParentS (zs : List Rc) (w : World) (e : Ending) (w' : World) : Prop :=
 ∃ b ys, e = .returned (.slice (some ⟨b, 0, none⟩) zs.length zs.length) ∧ dats ys = dats zs ∧ (∀ y ∈ ys, y.sh 1 3) ∧ St w w' [(b, cellsR ys)] [rowsR ys]
set_option maxRecDepth 100000 in
set_option maxHeartbeats 4000000 in
theorem toParentS_any (A : Option Addr) (n c : Nat) (zs : List Rc) (w : World) (hA : RRow 10 1 3 w A n zs) (hn : n + lensR zs ≤ 1048576) :
   Calls Tryz.prog 56 #[.slice A n c] w (OwnParentS zs w) := by
 obtain ⟨i0, hi, hz0, hz1, hz2⟩ := info_parts infoParent
 have HL := Lib.hid hA.len
 have HA := Lib.hid hA
 have HN := Lib.hid hn
 have hn' : n ≤ 1048576 := by omega
 clear hA hn
 go_enter Tryz.func56, Tryz.ntmps56
 go_wp2_with (at_make; refine wpList_make_full _ rfl _ _ _ rfl w.heap.size 63 i0 _ 10 Tryz.underlying58 hi hz0 hz1 .i64 .i64 _ _ n rfl rfl rfl rfl (by rw [hz2]; omega) (by unfold maxLen; omega) (Nat.le_refl _) ?_; intro w1 hown hgrow)
 rw [madeParent] at hown
 have hP : HeldL w1 w.heap.size (zerosParent n) := by
   refine ⟨(hown.lt w.heap.size rfl).2, fun j v hj => ?_, fun j v hj => hown.frozenAt j⟩
   have hj' := (List.getElem?_eq_some_iff.mp hj).1
   rw [zerosParent_len] at hj'
   rw [hown.cellAt j (by omega)]; exact hj
 have S_0 := Lib.hid (((St.start w).boxed ((Below.refl w.heap.size w).grown hgrow (Nat.le_refl _) (by simp)) hP (Nat.le_refl _)).nils 0)
 clear hown hgrow hP hi hz0 hz1 hz2
 go_wp2
 go_loopw [4] (fun i wr => ∃ (j : Nat) (ys : List Rc), j ≤ n ∧ i = .int .i64 j ∧ dats ys = dats (zs.take j) ∧ (∀ y ∈ ys, y.sh 1 3) ∧ St w wr [(w.heap.size, cellsR ys ++ zerosParent (n - j))] [rowsR ys]) (fun i _ => n - (intOf i).toNat)
 case atStart => exact ⟨0, [], Nat.zero_le _, rfl, rfl, by simp, S_0.out⟩
 case round =>
   obtain ⟨j, ys, hj, rfl, hlk, hsh, hst⟩ := hrel
   have S_1 := Lib.hid hst
   have HY := Lib.hid (show ys.length = j by have h1 := congrArg List.length hlk; rw [dats_len, dats_len, List.length_take, HL.out] at h1; omega)
   have HK := Lib.hid hlk
   have HS := Lib.hid hsh
   clear hst hlk hsh
   by_cases hlt : j < n
   · obtain ⟨m, hm⟩ : ∃ m, n - j = m + 1 := ⟨n - j - 1, by omega⟩
     have hm' : n - (j + 1) = m := by omega
     rw [hm] at S_1
     have HM := Lib.hid hm'
     clear hm hm'
     obtain ⟨g, o, z, rfl, hg, hz, hr, hs, hc⟩ := (HA.out.below S_1.out.below).at_ hlt
     obtain ⟨ZA, ZP, z0, z1, ZQ, z2, z3, ZR, z4, z5, rfl⟩ := Rc.sh13 hs
     have HZ := Lib.hid hz
     have HR := Lib.hid hr
     have HZL := Lib.hid (show ZP.len + ZQ.len + ZR.len ≤ 1048576 by have h1 := lenR_le hz; have h2 := HN.out; simp only [Rc.len, Rc.lens] at h1; omega)
     clear hz hr hs
     have c0 : wr.cell? ⟨g, o + j * 10, none⟩ = some (.int .i64 ZA) := hc 0 _ rfl
     have c1 : wr.cell? ⟨g, o + j * 10 + 1, none⟩ = some (.bool ZP.s) := hc 1 _ rfl
     have c2 : wr.cell? ⟨g, o + j * 10 + 2, none⟩ = some (z0) := hc 2 _ rfl
     have c3 : wr.cell? ⟨g, o + j * 10 + 3, none⟩ = some (z1) := hc 3 _ rfl
     have c4 : wr.cell? ⟨g, o + j * 10 + 4, none⟩ = some (.bool ZQ.s) := hc 4 _ rfl
     have c5 : wr.cell? ⟨g, o + j * 10 + 5, none⟩ = some (z2) := hc 5 _ rfl
     have c6 : wr.cell? ⟨g, o + j * 10 + 6, none⟩ = some (z3) := hc 6 _ rfl
     have c7 : wr.cell? ⟨g, o + j * 10 + 7, none⟩ = some (.bool ZR.s) := hc 7 _ rfl
     have c8 : wr.cell? ⟨g, o + j * 10 + 8, none⟩ = some (z4) := hc 8 _ rfl
     have c9 : wr.cell? ⟨g, o + j * 10 + 9, none⟩ = some (z5) := hc 9 _ rfl
     clear hc
     go_wp2_with fail
     refine (toParent_f ZA ZP ZQ ZR z0 z1 z2 z3 z4 z5 _ (HR.out (ZP, z0, z1) (by simp)) (HR.out (ZQ, z2, z3) (by simp)) (HR.out (ZR, z4, z5) (by simp)) HZL.out).mono ?_
     rintro e w2 ⟨u0, u1, u2, u3, u4, u5, rfl, ho, hb⟩
     obtain ⟨A0, n0, k0, rfl⟩ := (ho.at_ 0 rfl).shape3
     obtain ⟨A1, n1, k1, rfl⟩ := (ho.at_ 1 rfl).shape3
     obtain ⟨A2, n2, k2, rfl⟩ := (ho.at_ 2 rfl).shape3
     obtain ⟨A3, n3, k3, rfl⟩ := (ho.at_ 3 rfl).shape3
     obtain ⟨A4, n4, k4, rfl⟩ := (ho.at_ 4 rfl).shape3
     obtain ⟨A5, n5, k5, rfl⟩ := (ho.at_ 5 rfl).shape3
     have S_2 := Lib.hid (S_1.out.rows ho hb)
     have HX := Lib.hid (show (cellsR ys).length = j * 10 by rw [cellsR_len (Sz.of HS.out rfl), HY.out])
     clear ho hb S_1 c0 c1 c2 c3 c4 c5 c6 c7 c8 c9
     have d0 : w2.cell? ⟨w.heap.size, j * 10, none⟩ = some (.int .i64 0) := S_2.out.cell 0 (j * 10 + 0) rfl (midParent HX.out 0 rfl)
     have f0 : w2.frozen? ⟨w.heap.size, j * 10, none⟩ = false := S_2.out.froz 0 (j * 10 + 0) rfl (midParent HX.out 0 rfl)
     have d1 : w2.cell? ⟨w.heap.size, j * 10 + 1, none⟩ = some (.bool false) := S_2.out.cell 0 (j * 10 + 1) rfl (midParent HX.out 1 rfl)
     have f1 : w2.frozen? ⟨w.heap.size, j * 10 + 1, none⟩ = false := S_2.out.froz 0 (j * 10 + 1) rfl (midParent HX.out 1 rfl)
     have d2 : w2.cell? ⟨w.heap.size, j * 10 + 2, none⟩ = some (.slice none 0 0) := S_2.out.cell 0 (j * 10 + 2) rfl (midParent HX.out 2 rfl)
     have f2 : w2.frozen? ⟨w.heap.size, j * 10 + 2, none⟩ = false := S_2.out.froz 0 (j * 10 + 2) rfl (midParent HX.out 2 rfl)
     have d3 : w2.cell? ⟨w.heap.size, j * 10 + 3, none⟩ = some (.slice none 0 0) := S_2.out.cell 0 (j * 10 + 3) rfl (midParent HX.out 3 rfl)
     have f3 : w2.frozen? ⟨w.heap.size, j * 10 + 3, none⟩ = false := S_2.out.froz 0 (j * 10 + 3) rfl (midParent HX.out 3 rfl)
     have d4 : w2.cell? ⟨w.heap.size, j * 10 + 4, none⟩ = some (.bool false) := S_2.out.cell 0 (j * 10 + 4) rfl (midParent HX.out 4 rfl)
     have f4 : w2.frozen? ⟨w.heap.size, j * 10 + 4, none⟩ = false := S_2.out.froz 0 (j * 10 + 4) rfl (midParent HX.out 4 rfl)
     have d5 : w2.cell? ⟨w.heap.size, j * 10 + 5, none⟩ = some (.slice none 0 0) := S_2.out.cell 0 (j * 10 + 5) rfl (midParent HX.out 5 rfl)
     have f5 : w2.frozen? ⟨w.heap.size, j * 10 + 5, none⟩ = false := S_2.out.froz 0 (j * 10 + 5) rfl (midParent HX.out 5 rfl)
     have d6 : w2.cell? ⟨w.heap.size, j * 10 + 6, none⟩ = some (.slice none 0 0) := S_2.out.cell 0 (j * 10 + 6) rfl (midParent HX.out 6 rfl)
     have f6 : w2.frozen? ⟨w.heap.size, j * 10 + 6, none⟩ = false := S_2.out.froz 0 (j * 10 + 6) rfl (midParent HX.out 6 rfl)
     have d7 : w2.cell? ⟨w.heap.size, j * 10 + 7, none⟩ = some (.bool false) := S_2.out.cell 0 (j * 10 + 7) rfl (midParent HX.out 7 rfl)
     have f7 : w2.frozen? ⟨w.heap.size, j * 10 + 7, none⟩ = false := S_2.out.froz 0 (j * 10 + 7) rfl (midParent HX.out 7 rfl)
     have d8 : w2.cell? ⟨w.heap.size, j * 10 + 8, none⟩ = some (.slice none 0 0) := S_2.out.cell 0 (j * 10 + 8) rfl (midParent HX.out 8 rfl)
     have f8 : w2.frozen? ⟨w.heap.size, j * 10 + 8, none⟩ = false := S_2.out.froz 0 (j * 10 + 8) rfl (midParent HX.out 8 rfl)
     have d9 : w2.cell? ⟨w.heap.size, j * 10 + 9, none⟩ = some (.slice none 0 0) := S_2.out.cell 0 (j * 10 + 9) rfl (midParent HX.out 9 rfl)
     have f9 : w2.frozen? ⟨w.heap.size, j * 10 + 9, none⟩ = false := S_2.out.froz 0 (j * 10 + 9) rfl (midParent HX.out 9 rfl)
     go_wp2
     refine ⟨⟨j + 1, ys ++ [⟨[ZA], [(ZP, (.slice A0 n0 k0), (.slice A1 n1 k1)), (ZQ, (.slice A2 n2 k2), (.slice A3 n3 k3)), (ZR, (.slice A4 n4 k4), (.slice A5 n5 k5))]⟩], by omega, by go_num, ?_, ?_, ?_⟩, by simp [intOf]; omega⟩
     · have hj := (List.getElem?_eq_some_iff.mp HZ.out)
       obtain ⟨hj1, hj2⟩ := hj
       rw [List.take_succ_eq_append_getElem hj1, dats_app', dats_app', HK.out, hj2]
       rfl
     · intro y hy
       rcases List.mem_append.mp hy with a | a
       · exact HS.out y a
       · obtain rfl := List.mem_singleton.mp a
         exact ⟨rfl, rfl⟩
     · have hX := HX.out
       have S_3 := S_2.out.join
       rw [show zerosParent (m + 1) = [.int .i64 0, .bool false, .slice none 0 0, .slice none 0 0, .bool false, .slice none 0 0, .slice none 0 0, .bool false, .slice none 0 0, .slice none 0 0] ++ zerosParent m from rfl] at S_3
       have T := S_3.setSeg (k := 0) (us := [.int .i64 ZA, .bool ZP.s, (.slice A0 n0 k0), (.slice A1 n1 k1), .bool ZQ.s, (.slice A2 n2 k2), (.slice A3 n3 k3), .bool ZR.s, (.slice A4 n4 k4), (.slice A5 n5 k5)]) (X := cellsR ys) (old := [.int .i64 0, .bool false, .slice none 0 0, .slice none 0 0, .bool false, .slice none 0 0, .slice none 0 0, .bool false, .slice none 0 0, .slice none 0 0]) (rest := zerosParent m) (m := j * 10) rfl hX rfl
       rw [HM.out]
       have E1 : (cellsR ys ++ ([.int .i64 ZA, .bool ZP.s, (.slice A0 n0 k0), (.slice A1 n1 k1), .bool ZQ.s, (.slice A2 n2 k2), (.slice A3 n3 k3), .bool ZR.s, (.slice A4 n4 k4), (.slice A5 n5 k5)] ++ zerosParent m)) = cellsR (ys ++ [⟨[ZA], [(ZP, (.slice A0 n0 k0), (.slice A1 n1 k1)), (ZQ, (.slice A2 n2 k2), (.slice A3 n3 k3)), (ZR, (.slice A4 n4 k4), (.slice A5 n5 k5))]⟩]) ++ zerosParent m := by simp [cellsR, Rc.cells, Rc.frc]
       have E2 : rowsR ys ++ [((.slice A0 n0 k0), ints ZP.xs), ((.slice A1 n1 k1), ints ZP.ys), ((.slice A2 n2 k2), ints ZQ.xs), ((.slice A3 n3 k3), ints ZQ.ys), ((.slice A4 n4 k4), ints ZR.xs), ((.slice A5 n5 k5), ints ZR.ys)] = rowsR (ys ++ [⟨[ZA], [(ZP, (.slice A0 n0 k0), (.slice A1 n1 k1)), (ZQ, (.slice A2 n2 k2), (.slice A3 n3 k3)), (ZR, (.slice A4 n4 k4), (.slice A5 n5 k5))]⟩]) := by simp [rowsR, Rc.rows, Rc.frr]
       rw [← E1, ← E2]
       exact T
   · go_wp2
     go_ret
     obtain rfl : j = n := by omega
     have S_9 := S_1.out
     rw [Nat.sub_self, show zerosParent 0 = [] from rfl, List.append_nil] at S_9
     have hl : zs.take j = zs := by rw [List.take_of_length_le (by rw [HL.out]; exact Nat.le_refl _)]
     exact ⟨w.heap.size, ys, by rw [HL.out]; rfl, by rw [← hl]; exact HK.out, HS.out, S_9⟩
theorem trod_fieldsParent {H : Type} {enc : TypeId × Value → H} {Pg : Program} {w : World} {t : TypeId} {f0 f1 f2 f3 : Field} {fuel : Nat} {cs : List Value} {x : DataW H × List MemPlace} (ht : Pg.underlying t = some (.struct #[f0, f1, f2, f3])) (h : DataW.trod enc Pg w 0 (fun _ => true) true fuel t cs = some x) :
   ∃ y0 y1 y2 y3 n, DataW.trod enc Pg w 0 (fun _ => true) true n f0.type ((cs.drop f0.offset).take (Pg.cellsOf f0.type)) = some y0 ∧ DataW.trod enc Pg w 0 (fun _ => true) true n f1.type ((cs.drop f1.offset).take (Pg.cellsOf f1.type)) = some y1 ∧ DataW.trod enc Pg w 0 (fun _ => true) true n f2.type ((cs.drop f2.offset).take (Pg.cellsOf f2.type)) = some y2 ∧ DataW.trod enc Pg w 0 (fun _ => true) true n f3.type ((cs.drop f3.offset).take (Pg.cellsOf f3.type)) = some y3 := by
 obtain ⟨xs, n, _, rfl, hl, hlen, hf⟩ := DataW.trod_struct ht h
 match xs, hlen with
 | [y0, y1, y2, y3], _ => exact ⟨y0, y1, y2, y3, n, by simpa using hf 0 f0 rfl, by simpa using hf 1 f1 rfl, by simpa using hf 2 f2 rfl, by simpa using hf 3 f3 rfl⟩
def parentRcT (Pg : Program) (t tr : TypeId) : Prop :=
 RatT Pg tr ∧ ∃ f0 f1 f2 f3 : Field, Pg.underlying t = some (.struct #[f0, f1, f2, f3]) ∧ (f0.offset = 0 ∧ f1.offset = 1 ∧ f2.offset = 4 ∧ f3.offset = 7) ∧ (Pg.cellsOf f0.type = 1 ∧ Pg.cellsOf tr = 3) ∧ (f1.type = tr ∧ f2.type = tr ∧ f3.type = tr) ∧ (Pg.underlying f0.type = some (.int .i64) ∧ True) ∧ Pg.cellsOf t = 10
theorem parentRc_cells {H : Type} {enc : TypeId × Value → H} {Pg : Program} {w : World} {t tr : TypeId} {fuel : Nat} {c0 c1 c2 c3 c4 c5 c6 c7 c8 c9 : Value} {x : DataW H × List MemPlace} (hr : parentRcT Pg t tr) (h : DataW.trod enc Pg w 0 (fun _ => true) true fuel t [c0, c1, c2, c3, c4, c5, c6, c7, c8, c9] = some x) :
   ∃ z : Rc, [c0, c1, c2, c3, c4, c5, c6, c7, c8, c9] = z.cells ∧ z.rd w ∧ z.sh 1 3 := by
 obtain ⟨hr, f0, f1, f2, f3, hs, ⟨o0, o1, o2, o3⟩, ⟨k0, kr⟩, ⟨t1, t2, t3⟩, ⟨u0, _⟩, _⟩ := hr
 obtain ⟨y0, y1, y2, y3, n, g0, g1, g2, g3⟩ := trod_fieldsParent hs h
 rw [t1] at g1
 rw [t2] at g2
 rw [t3] at g3
 have g0' : DataW.trod enc Pg w 0 (fun _ => true) true n f0.type [c0] = some y0 := by simpa [o0, k0] using g0
 obtain ⟨A, e0, _⟩ := DataW.trod_int u0 g0'
 have g1' : DataW.trod enc Pg w 0 (fun _ => true) true n tr [c1, c2, c3] = some y1 := by simpa [o1, kr] using g1
 obtain ⟨P, rfl, hP⟩ := rat_cells hr g1'
 have g2' : DataW.trod enc Pg w 0 (fun _ => true) true n tr [c4, c5, c6] = some y2 := by simpa [o2, kr] using g2
 obtain ⟨Q, rfl, hQ⟩ := rat_cells hr g2'
 have g3' : DataW.trod enc Pg w 0 (fun _ => true) true n tr [c7, c8, c9] = some y3 := by simpa [o3, kr] using g3
 obtain ⟨R, rfl, hR⟩ := rat_cells hr g3'
 obtain rfl : c0 = .int .i64 A := by simpa using e0
 refine ⟨⟨[A], [(P, c2, c3), (Q, c5, c6), (R, c8, c9)]⟩, rfl, ?_, ⟨rfl, rfl⟩⟩
 intro f hf
 simp only [List.mem_cons, List.not_mem_nil, or_false] at hf
 rcases hf with rfl | rfl | rfl
 · exact hP
 · exact hQ
 · exact hR
theorem isParentS_of {H : Type} {enc : TypeId × Value → H} {Pg : Program} {w : World} {t e tr : TypeId} {a : Option Addr} {len cap : Nat} {d : DataW H} {p : List MemPlace} (hr : parentRcT Pg e tr) (ht : Pg.underlying t = some (.slice e))
   (h : DataW.Trod enc Pg w 0 (fun _ => true) true t (.slice a len cap) d p) : ∃ zs, RRow 10 1 3 w a len zs ∧ len ≤ cap ∧ cap ≤ maxLen := by
 have hC : Pg.cellsOf e = 10 := by obtain ⟨_, _, _, _, _, _, _, _, _, _, hC⟩ := hr; exact hC
 obtain ⟨fuel, hf⟩ := h
 rcases open_slice ht hf with ⟨hcs, _⟩ | ⟨x, l, c, m, n, D, Pl, hcs, _, hl, hm, hme, _, hall⟩
 · simp [Value.cells] at hcs
   obtain ⟨rfl, rfl, rfl⟩ := hcs
   exact ⟨[], RRow.nil, Nat.le_refl _, by unfold maxLen; omega⟩
 · simp [Value.cells] at hcs
   obtain ⟨rfl, rfl, rfl⟩ := hcs
   have hmc : m = cap := by simpa using hme
   subst hmc
   have key : ∀ i, i < len → ∃ z : Rc, z.rd w ∧ z.sh 1 3 ∧ ∀ (j : Nat) (v : Value), z.cells[j]? = some v → w.cell? (x.add (i * 10 + j)) = some v := by
     intro i hi
     obtain ⟨cs', hc, ht'⟩ := hall i (by omega)
     rw [hC] at hc
     obtain ⟨_, hlen, hcell⟩ := World.cells?_some hc
     obtain ⟨c0, c1, c2, c3, c4, c5, c6, c7, c8, c9, rfl⟩ : ∃ c0 c1 c2 c3 c4 c5 c6 c7 c8 c9, cs' = [c0, c1, c2, c3, c4, c5, c6, c7, c8, c9] := by
       match cs', hlen with
       | [c0, c1, c2, c3, c4, c5, c6, c7, c8, c9], _ => exact ⟨c0, c1, c2, c3, c4, c5, c6, c7, c8, c9, rfl⟩
     obtain ⟨z, hz, hrd, hsh⟩ := parentRc_cells hr ht'
     have hadd : ∀ (y : Addr) (i j : Nat), (y.add i).add j = y.add (i + j) := by
       intro y i j
       unfold Addr.add
       by_cases hi : i = 0 <;> by_cases hj : j = 0 <;> simp [hi, hj, Nat.add_assoc]
     refine ⟨z, hrd, hsh, fun j v hj => ?_⟩
     rw [← hz] at hj
     have hj' : j < 10 := by have := (List.getElem?_eq_some_iff.mp hj).1; simpa using this
     have b := hcell j (by omega)
     rw [hadd] at b
     rw [b]
     simpa using hj
   have hF : ∃ F : Nat → Rc, ∀ i, i < len → (F i).rd w ∧ (F i).sh 1 3 ∧ ∀ (j : Nat) (v : Value), (F i).cells[j]? = some v → w.cell? (x.add (i * 10 + j)) = some v := by
     refine ⟨fun i => if hi : i < len then Classical.choose (key i hi) else ⟨[], []⟩, fun i hi => ?_⟩
     simp only [dif_pos hi]
     exact Classical.choose_spec (key i hi)
   obtain ⟨F, hF⟩ := hF
   refine ⟨(List.range len).map F, ⟨by simp, fun hn => ?_, fun z hz => ?_, fun z hz => ?_⟩, hl, hm⟩
   · obtain ⟨b, off, spot⟩ := x
     have hlt0 : 0 < (F 0).cells.length := by rw [Rc.cells_len (hF 0 hn).2.1]; decide
     have z0 := (hF 0 hn).2.2 0 _ (List.getElem?_eq_getElem hlt0)
     rw [Nat.zero_mul, Nat.zero_add] at z0
     have hspot : spot = none := by simpa [Addr.add] using World.cell?_spot z0
     subst hspot
     refine ⟨b, off, rfl, World.block_lt_of_cell? w _ z0, fun k hk j v hj => ?_⟩
     have hk' : k < len := by simpa using hk
     have e : ((List.range len).map F)[k] = F k := by simp
     rw [e] at hj
     have := (hF k hk').2.2 j v hj
     rw [add_plainK] at this
     rw [Nat.add_assoc]; exact this
   · obtain ⟨i, hi, rfl⟩ := List.mem_map.mp hz
     exact (hF i (List.mem_range.mp hi)).1
   · obtain ⟨i, hi, rfl⟩ := List.mem_map.mp hz
     exact (hF i (List.mem_range.mp hi)).2.1
theorem parentRcT_p : parentRcT Tryz.prog 117 54 :=
 ⟨ratT, _, _, _, _, Tryz.underlying117, ⟨rfl, rfl, rfl, rfl⟩, ⟨by kernel_rfl, by kernel_rfl⟩, ⟨rfl, rfl, rfl⟩, ⟨Tryz.underlying3, trivial⟩, by kernel_rfl⟩
end Go.Proofs.YtaboodioabopnaaGreat
