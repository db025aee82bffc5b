/- Links: copies; where a link stands in a list. Conditions: none. -/
import Derived.Test.YtgjaennedihckaaGreatFrCopy
import Derived.Test.YtgjaennedihckaaGreatSetAid
namespace Go.Proofs.YtgjaennedihckaaGreat
open Go.RowKit Nt Fr
set_option linter.unusedVariables false

theorem okK_fr {A B : Int} {P Q R : Fr} (h : okK A B P Q R = true) : P.ok = true ∧ Q.ok = true ∧ R.ok = true := by
  obtain ⟨_, _, _, h4, h5, h6⟩ := okK_parts h
  exact ⟨sgn_ok h4, h5, h6⟩
set_option maxRecDepth 100000 in
set_option maxHeartbeats 4000000 in
theorem linkCopied_f (A B : Int) (P Q R : Fr) (p0 p1 q0 q1 r0 r1 : Value) (w : World) (hok : okK A B P Q R = true) (hL : LkA w P Q R p0 p1 q0 q1 r0 r1) :
    Calls Tryz.prog 62 #[.agg #[.int .i64 A, .int .i64 B, .bool P.s, p0, p1, .bool Q.s, q0, q1, .bool R.s, r0, r1]] w (OwnK A B P Q R w) := by
  have HL := Lib.hid hL
  have HO := Lib.hid (okK_fr hok)
  clear hL hok
  have S_1 := Lib.hid (show St w ((w.alloc (.cells #[.int .i64 A, .int .i64 B, .bool P.s, p0, p1, .bool Q.s, q0, q1, .bool R.s, r0, r1] 38)).alloc (.cells #[.int .i64 0, .int .i64 0, .bool false, .slice none 0 0, .slice none 0 0, .bool false, .slice none 0 0, .slice none 0 0, .bool false, .slice none 0 0, .slice none 0 0] 38)) [(w.heap.size + 1, [.int .i64 0, .int .i64 0, .bool false, .slice none 0 0, .slice none 0 0, .bool false, .slice none 0 0, .slice none 0 0, .bool false, .slice none 0 0, .slice none 0 0]), (w.heap.size, [.int .i64 A, .int .i64 B, .bool P.s, p0, p1, .bool Q.s, q0, q1, .bool R.s, r0, r1])] [] from (((St.start w).alloc_at (b := w.heap.size) [.int .i64 A, .int .i64 B, .bool P.s, p0, p1, .bool Q.s, q0, q1, .bool R.s, r0, r1] 38 (by first | rfl | simp)).alloc_at (b := w.heap.size + 1) [.int .i64 0, .int .i64 0, .bool false, .slice none 0 0, .slice none 0 0, .bool false, .slice none 0 0, .slice none 0 0, .bool false, .slice none 0 0, .slice none 0 0] 38 (by first | rfl | simp)))
  have hne_res_a : w.heap.size + 1 ≠ w.heap.size := by omega
  have hne_a_res : w.heap.size ≠ w.heap.size + 1 := by omega
  go_enter Tryz.func62, Tryz.ntmps62
  have hk_a_0_1 := S_1.out.cell 1 0 rfl rfl
  have hk_a_1_1 := S_1.out.cell 1 1 rfl rfl
  have hk_a_2_1 := S_1.out.cell 1 2 rfl rfl
  have hk_a_3_1 := S_1.out.cell 1 3 rfl rfl
  have hk_a_4_1 := S_1.out.cell 1 4 rfl rfl
  have hk_a_5_1 := S_1.out.cell 1 5 rfl rfl
  have hk_a_6_1 := S_1.out.cell 1 6 rfl rfl
  have hk_a_7_1 := S_1.out.cell 1 7 rfl rfl
  have hk_a_8_1 := S_1.out.cell 1 8 rfl rfl
  have hk_a_9_1 := S_1.out.cell 1 9 rfl rfl
  have hk_a_10_1 := S_1.out.cell 1 10 rfl rfl
  go_wp2
  go_region_held3 (fun w' => w'.cell? ⟨w.heap.size, 0, none⟩ = some (.int .i64 A) ∧ w'.cell? ⟨w.heap.size, 1, none⟩ = some (.int .i64 B) ∧ w'.cell? ⟨w.heap.size, 2, none⟩ = some (.bool P.s) ∧ w'.cell? ⟨w.heap.size, 3, none⟩ = some (p0) ∧ w'.cell? ⟨w.heap.size, 4, none⟩ = some (p1) ∧ w'.cell? ⟨w.heap.size, 5, none⟩ = some (.bool Q.s) ∧ w'.cell? ⟨w.heap.size, 6, none⟩ = some (q0) ∧ w'.cell? ⟨w.heap.size, 7, none⟩ = some (q1) ∧ w'.cell? ⟨w.heap.size, 8, none⟩ = some (.bool R.s) ∧ w'.cell? ⟨w.heap.size, 9, none⟩ = some (r0) ∧ w'.cell? ⟨w.heap.size, 10, none⟩ = some (r1)) (go_keep)
    (first
      | (go_at_call_of 89 (Value.agg #[Value.bool P.s, p0, p1])
         refine (copied_f P p0 p1 _ HO.out.1 (S_1.out.drew.lkA HL.out).p).mono ?_
         rintro e w1 ⟨v1, u1, rfl, ho, hb⟩
         obtain ⟨A1, n1, c1, rfl⟩ := (ho.at_ 0 rfl).shape3
         obtain ⟨B1, m1, d1, rfl⟩ := (ho.at_ 1 rfl).shape3
         have S_2 := Lib.hid (S_1.out.drew.rows ho hb)
         clear S_1 ho hb
         have hk_a_0_2 := S_2.out.cell 1 0 rfl rfl
         have hk_a_1_2 := S_2.out.cell 1 1 rfl rfl
         have hk_a_2_2 := S_2.out.cell 1 2 rfl rfl
         have hk_a_3_2 := S_2.out.cell 1 3 rfl rfl
         have hk_a_4_2 := S_2.out.cell 1 4 rfl rfl
         have hk_a_5_2 := S_2.out.cell 1 5 rfl rfl
         have hk_a_6_2 := S_2.out.cell 1 6 rfl rfl
         have hk_a_7_2 := S_2.out.cell 1 7 rfl rfl
         have hk_a_8_2 := S_2.out.cell 1 8 rfl rfl
         have hk_a_9_2 := S_2.out.cell 1 9 rfl rfl
         have hk_a_10_2 := S_2.out.cell 1 10 rfl rfl)
      | (go_at_call_of 89 (Value.agg #[Value.bool Q.s, q0, q1])
         refine (copied_f Q q0 q1 _ HO.out.2.1 (S_2.out.lkA HL.out).q).mono ?_
         rintro e w2 ⟨v2, u2, rfl, ho, hb⟩
         obtain ⟨A2, n2, c2, rfl⟩ := (ho.at_ 0 rfl).shape3
         obtain ⟨B2, m2, d2, rfl⟩ := (ho.at_ 1 rfl).shape3
         have S_3 := Lib.hid (S_2.out.rows ho hb)
         clear S_2 ho hb
         have hk_a_0_3 := S_3.out.cell 1 0 rfl rfl
         have hk_a_1_3 := S_3.out.cell 1 1 rfl rfl
         have hk_a_2_3 := S_3.out.cell 1 2 rfl rfl
         have hk_a_3_3 := S_3.out.cell 1 3 rfl rfl
         have hk_a_4_3 := S_3.out.cell 1 4 rfl rfl
         have hk_a_5_3 := S_3.out.cell 1 5 rfl rfl
         have hk_a_6_3 := S_3.out.cell 1 6 rfl rfl
         have hk_a_7_3 := S_3.out.cell 1 7 rfl rfl
         have hk_a_8_3 := S_3.out.cell 1 8 rfl rfl
         have hk_a_9_3 := S_3.out.cell 1 9 rfl rfl
         have hk_a_10_3 := S_3.out.cell 1 10 rfl rfl)
      | (go_at_call_of 89 (Value.agg #[Value.bool R.s, r0, r1])
         refine (copied_f R r0 r1 _ HO.out.2.2 (S_3.out.lkA HL.out).r).mono ?_
         rintro e w3 ⟨v3, u3, rfl, ho, hb⟩
         obtain ⟨A3, n3, c3, rfl⟩ := (ho.at_ 0 rfl).shape3
         obtain ⟨B3, m3, d3, rfl⟩ := (ho.at_ 1 rfl).shape3
         have S_4 := Lib.hid (S_3.out.rows ho hb)
         clear S_3 ho hb
         have hk_a_0_4 := S_4.out.cell 1 0 rfl rfl
         have hk_a_1_4 := S_4.out.cell 1 1 rfl rfl
         have hk_a_2_4 := S_4.out.cell 1 2 rfl rfl
         have hk_a_3_4 := S_4.out.cell 1 3 rfl rfl
         have hk_a_4_4 := S_4.out.cell 1 4 rfl rfl
         have hk_a_5_4 := S_4.out.cell 1 5 rfl rfl
         have hk_a_6_4 := S_4.out.cell 1 6 rfl rfl
         have hk_a_7_4 := S_4.out.cell 1 7 rfl rfl
         have hk_a_8_4 := S_4.out.cell 1 8 rfl rfl
         have hk_a_9_4 := S_4.out.cell 1 9 rfl rfl
         have hk_a_10_4 := S_4.out.cell 1 10 rfl rfl
         have hk_res_0_4 := S_4.out.cell 0 0 rfl rfl
         have hk_res_0_4f := S_4.out.froz 0 0 rfl rfl
         have hk_res_1_4 := S_4.out.cell 0 1 rfl rfl
         have hk_res_1_4f := S_4.out.froz 0 1 rfl rfl
         have hk_res_2_4 := S_4.out.cell 0 2 rfl rfl
         have hk_res_2_4f := S_4.out.froz 0 2 rfl rfl
         have hk_res_3_4 := S_4.out.cell 0 3 rfl rfl
         have hk_res_3_4f := S_4.out.froz 0 3 rfl rfl
         have hk_res_4_4 := S_4.out.cell 0 4 rfl rfl
         have hk_res_4_4f := S_4.out.froz 0 4 rfl rfl
         have hk_res_5_4 := S_4.out.cell 0 5 rfl rfl
         have hk_res_5_4f := S_4.out.froz 0 5 rfl rfl
         have hk_res_6_4 := S_4.out.cell 0 6 rfl rfl
         have hk_res_6_4f := S_4.out.froz 0 6 rfl rfl
         have hk_res_7_4 := S_4.out.cell 0 7 rfl rfl
         have hk_res_7_4f := S_4.out.froz 0 7 rfl rfl
         have hk_res_8_4 := S_4.out.cell 0 8 rfl rfl
         have hk_res_8_4f := S_4.out.froz 0 8 rfl rfl
         have hk_res_9_4 := S_4.out.cell 0 9 rfl rfl
         have hk_res_9_4f := S_4.out.froz 0 9 rfl rfl
         have hk_res_10_4 := S_4.out.cell 0 10 rfl rfl
         have hk_res_10_4f := S_4.out.froz 0 10 rfl rfl))
  go_wp2
  have SR := Lib.hid (S_4.out.setAll 0 [.int .i64 A, .int .i64 B, .bool P.s, (.slice A1 n1 c1), (.slice B1 m1 d1), .bool Q.s, (.slice A2 n2 c2), (.slice B2 m2 d2), .bool R.s, (.slice A3 n3 c3), (.slice B3 m3 d3)] rfl rfl)
  have hr0 := S_4.out.cell 0 0 rfl rfl
  have hr1 := S_4.out.cell 0 1 rfl rfl
  have hr2 := S_4.out.cell 0 2 rfl rfl
  have hr3 := S_4.out.cell 0 3 rfl rfl
  have hr4 := S_4.out.cell 0 4 rfl rfl
  have hr5 := S_4.out.cell 0 5 rfl rfl
  have hr6 := S_4.out.cell 0 6 rfl rfl
  have hr7 := S_4.out.cell 0 7 rfl rfl
  have hr8 := S_4.out.cell 0 8 rfl rfl
  have hr9 := S_4.out.cell 0 9 rfl rfl
  have hr10 := S_4.out.cell 0 10 rfl rfl
  exact bodyPost_ret (v := .agg #[.int .i64 A, .int .i64 B, .bool P.s, (.slice A1 n1 c1), (.slice B1 m1 d1), .bool Q.s, (.slice A2 n2 c2), (.slice B2 m2 d2), .bool R.s, (.slice A3 n3 c3), (.slice B3 m3 d3)]) (by simp [results, Tryz.results62, go_sem, hr0, hr1, hr2, hr3, hr4, hr5, hr6, hr7, hr8, hr9, hr10]) rfl ⟨_, _, _, _, _, _, rfl, SR.out.pick [2, 1, 0] [[((.slice A1 n1 c1), ints P.xs), ((.slice B1 m1 d1), ints P.ys)], [((.slice A2 n2 c2), ints Q.xs), ((.slice B2 m2 d2), ints Q.ys)], [((.slice A3 n3 c3), ints R.xs), ((.slice B3 m3 d3), ints R.ys)]] (by decide) rfl, SR.out.below⟩
set_option maxRecDepth 100000 in
set_option maxHeartbeats 4000000 in
theorem l06Copy_f (A B : Int) (P Q R : Fr) (p0 p1 q0 q1 r0 r1 : Value) (w : World) (hok : okK A B P Q R = true) (hL : LkA w P Q R p0 p1 q0 q1 r0 r1) :
    Calls Tryz.prog 60 #[.agg #[.int .i64 A, .int .i64 B, .bool P.s, p0, p1, .bool Q.s, q0, q1, .bool R.s, r0, r1]] w (OwnK A B P Q R w) := by
  have HL := Lib.hid hL
  have HO := Lib.hid (okK_fr hok)
  clear hL hok
  have S_1 := Lib.hid (show St w ((w.alloc (.cells #[.int .i64 A, .int .i64 B, .bool P.s, p0, p1, .bool Q.s, q0, q1, .bool R.s, r0, r1] 38)).alloc (.cells #[.int .i64 0, .int .i64 0, .bool false, .slice none 0 0, .slice none 0 0, .bool false, .slice none 0 0, .slice none 0 0, .bool false, .slice none 0 0, .slice none 0 0] 38)) [(w.heap.size + 1, [.int .i64 0, .int .i64 0, .bool false, .slice none 0 0, .slice none 0 0, .bool false, .slice none 0 0, .slice none 0 0, .bool false, .slice none 0 0, .slice none 0 0]), (w.heap.size, [.int .i64 A, .int .i64 B, .bool P.s, p0, p1, .bool Q.s, q0, q1, .bool R.s, r0, r1])] [] from (((St.start w).alloc_at (b := w.heap.size) [.int .i64 A, .int .i64 B, .bool P.s, p0, p1, .bool Q.s, q0, q1, .bool R.s, r0, r1] 38 (by first | rfl | simp)).alloc_at (b := w.heap.size + 1) [.int .i64 0, .int .i64 0, .bool false, .slice none 0 0, .slice none 0 0, .bool false, .slice none 0 0, .slice none 0 0, .bool false, .slice none 0 0, .slice none 0 0] 38 (by first | rfl | simp)))
  have hne_res_a : w.heap.size + 1 ≠ w.heap.size := by omega
  have hne_a_res : w.heap.size ≠ w.heap.size + 1 := by omega
  go_enter Tryz.func60, Tryz.ntmps60
  have hk_a_0_1 := S_1.out.cell 1 0 rfl rfl
  have hk_a_1_1 := S_1.out.cell 1 1 rfl rfl
  have hk_a_2_1 := S_1.out.cell 1 2 rfl rfl
  have hk_a_3_1 := S_1.out.cell 1 3 rfl rfl
  have hk_a_4_1 := S_1.out.cell 1 4 rfl rfl
  have hk_a_5_1 := S_1.out.cell 1 5 rfl rfl
  have hk_a_6_1 := S_1.out.cell 1 6 rfl rfl
  have hk_a_7_1 := S_1.out.cell 1 7 rfl rfl
  have hk_a_8_1 := S_1.out.cell 1 8 rfl rfl
  have hk_a_9_1 := S_1.out.cell 1 9 rfl rfl
  have hk_a_10_1 := S_1.out.cell 1 10 rfl rfl
  go_wp2
  go_region_held3 (fun w' => w'.cell? ⟨w.heap.size, 0, none⟩ = some (.int .i64 A) ∧ w'.cell? ⟨w.heap.size, 1, none⟩ = some (.int .i64 B) ∧ w'.cell? ⟨w.heap.size, 2, none⟩ = some (.bool P.s) ∧ w'.cell? ⟨w.heap.size, 3, none⟩ = some (p0) ∧ w'.cell? ⟨w.heap.size, 4, none⟩ = some (p1) ∧ w'.cell? ⟨w.heap.size, 5, none⟩ = some (.bool Q.s) ∧ w'.cell? ⟨w.heap.size, 6, none⟩ = some (q0) ∧ w'.cell? ⟨w.heap.size, 7, none⟩ = some (q1) ∧ w'.cell? ⟨w.heap.size, 8, none⟩ = some (.bool R.s) ∧ w'.cell? ⟨w.heap.size, 9, none⟩ = some (r0) ∧ w'.cell? ⟨w.heap.size, 10, none⟩ = some (r1)) (go_keep)
    (first
      | (go_at_call_of 87 (Value.agg #[Value.bool P.s, p0, p1])
         refine (l04Copy_f P p0 p1 _ HO.out.1 (S_1.out.drew.lkA HL.out).p).mono ?_
         rintro e w1 ⟨v1, u1, rfl, ho, hb⟩
         obtain ⟨A1, n1, c1, rfl⟩ := (ho.at_ 0 rfl).shape3
         obtain ⟨B1, m1, d1, rfl⟩ := (ho.at_ 1 rfl).shape3
         have S_2 := Lib.hid (S_1.out.drew.rows ho hb)
         clear S_1 ho hb
         have hk_a_0_2 := S_2.out.cell 1 0 rfl rfl
         have hk_a_1_2 := S_2.out.cell 1 1 rfl rfl
         have hk_a_2_2 := S_2.out.cell 1 2 rfl rfl
         have hk_a_3_2 := S_2.out.cell 1 3 rfl rfl
         have hk_a_4_2 := S_2.out.cell 1 4 rfl rfl
         have hk_a_5_2 := S_2.out.cell 1 5 rfl rfl
         have hk_a_6_2 := S_2.out.cell 1 6 rfl rfl
         have hk_a_7_2 := S_2.out.cell 1 7 rfl rfl
         have hk_a_8_2 := S_2.out.cell 1 8 rfl rfl
         have hk_a_9_2 := S_2.out.cell 1 9 rfl rfl
         have hk_a_10_2 := S_2.out.cell 1 10 rfl rfl)
      | (go_at_call_of 87 (Value.agg #[Value.bool Q.s, q0, q1])
         refine (l04Copy_f Q q0 q1 _ HO.out.2.1 (S_2.out.lkA HL.out).q).mono ?_
         rintro e w2 ⟨v2, u2, rfl, ho, hb⟩
         obtain ⟨A2, n2, c2, rfl⟩ := (ho.at_ 0 rfl).shape3
         obtain ⟨B2, m2, d2, rfl⟩ := (ho.at_ 1 rfl).shape3
         have S_3 := Lib.hid (S_2.out.rows ho hb)
         clear S_2 ho hb
         have hk_a_0_3 := S_3.out.cell 1 0 rfl rfl
         have hk_a_1_3 := S_3.out.cell 1 1 rfl rfl
         have hk_a_2_3 := S_3.out.cell 1 2 rfl rfl
         have hk_a_3_3 := S_3.out.cell 1 3 rfl rfl
         have hk_a_4_3 := S_3.out.cell 1 4 rfl rfl
         have hk_a_5_3 := S_3.out.cell 1 5 rfl rfl
         have hk_a_6_3 := S_3.out.cell 1 6 rfl rfl
         have hk_a_7_3 := S_3.out.cell 1 7 rfl rfl
         have hk_a_8_3 := S_3.out.cell 1 8 rfl rfl
         have hk_a_9_3 := S_3.out.cell 1 9 rfl rfl
         have hk_a_10_3 := S_3.out.cell 1 10 rfl rfl)
      | (go_at_call_of 87 (Value.agg #[Value.bool R.s, r0, r1])
         refine (l04Copy_f R r0 r1 _ HO.out.2.2 (S_3.out.lkA HL.out).r).mono ?_
         rintro e w3 ⟨v3, u3, rfl, ho, hb⟩
         obtain ⟨A3, n3, c3, rfl⟩ := (ho.at_ 0 rfl).shape3
         obtain ⟨B3, m3, d3, rfl⟩ := (ho.at_ 1 rfl).shape3
         have S_4 := Lib.hid (S_3.out.rows ho hb)
         clear S_3 ho hb
         have hk_a_0_4 := S_4.out.cell 1 0 rfl rfl
         have hk_a_1_4 := S_4.out.cell 1 1 rfl rfl
         have hk_a_2_4 := S_4.out.cell 1 2 rfl rfl
         have hk_a_3_4 := S_4.out.cell 1 3 rfl rfl
         have hk_a_4_4 := S_4.out.cell 1 4 rfl rfl
         have hk_a_5_4 := S_4.out.cell 1 5 rfl rfl
         have hk_a_6_4 := S_4.out.cell 1 6 rfl rfl
         have hk_a_7_4 := S_4.out.cell 1 7 rfl rfl
         have hk_a_8_4 := S_4.out.cell 1 8 rfl rfl
         have hk_a_9_4 := S_4.out.cell 1 9 rfl rfl
         have hk_a_10_4 := S_4.out.cell 1 10 rfl rfl
         have hk_res_0_4 := S_4.out.cell 0 0 rfl rfl
         have hk_res_0_4f := S_4.out.froz 0 0 rfl rfl
         have hk_res_1_4 := S_4.out.cell 0 1 rfl rfl
         have hk_res_1_4f := S_4.out.froz 0 1 rfl rfl
         have hk_res_2_4 := S_4.out.cell 0 2 rfl rfl
         have hk_res_2_4f := S_4.out.froz 0 2 rfl rfl
         have hk_res_3_4 := S_4.out.cell 0 3 rfl rfl
         have hk_res_3_4f := S_4.out.froz 0 3 rfl rfl
         have hk_res_4_4 := S_4.out.cell 0 4 rfl rfl
         have hk_res_4_4f := S_4.out.froz 0 4 rfl rfl
         have hk_res_5_4 := S_4.out.cell 0 5 rfl rfl
         have hk_res_5_4f := S_4.out.froz 0 5 rfl rfl
         have hk_res_6_4 := S_4.out.cell 0 6 rfl rfl
         have hk_res_6_4f := S_4.out.froz 0 6 rfl rfl
         have hk_res_7_4 := S_4.out.cell 0 7 rfl rfl
         have hk_res_7_4f := S_4.out.froz 0 7 rfl rfl
         have hk_res_8_4 := S_4.out.cell 0 8 rfl rfl
         have hk_res_8_4f := S_4.out.froz 0 8 rfl rfl
         have hk_res_9_4 := S_4.out.cell 0 9 rfl rfl
         have hk_res_9_4f := S_4.out.froz 0 9 rfl rfl
         have hk_res_10_4 := S_4.out.cell 0 10 rfl rfl
         have hk_res_10_4f := S_4.out.froz 0 10 rfl rfl))
  go_wp2
  have SR := Lib.hid (S_4.out.setAll 0 [.int .i64 A, .int .i64 B, .bool P.s, (.slice A1 n1 c1), (.slice B1 m1 d1), .bool Q.s, (.slice A2 n2 c2), (.slice B2 m2 d2), .bool R.s, (.slice A3 n3 c3), (.slice B3 m3 d3)] rfl rfl)
  have hr0 := S_4.out.cell 0 0 rfl rfl
  have hr1 := S_4.out.cell 0 1 rfl rfl
  have hr2 := S_4.out.cell 0 2 rfl rfl
  have hr3 := S_4.out.cell 0 3 rfl rfl
  have hr4 := S_4.out.cell 0 4 rfl rfl
  have hr5 := S_4.out.cell 0 5 rfl rfl
  have hr6 := S_4.out.cell 0 6 rfl rfl
  have hr7 := S_4.out.cell 0 7 rfl rfl
  have hr8 := S_4.out.cell 0 8 rfl rfl
  have hr9 := S_4.out.cell 0 9 rfl rfl
  have hr10 := S_4.out.cell 0 10 rfl rfl
  exact bodyPost_ret (v := .agg #[.int .i64 A, .int .i64 B, .bool P.s, (.slice A1 n1 c1), (.slice B1 m1 d1), .bool Q.s, (.slice A2 n2 c2), (.slice B2 m2 d2), .bool R.s, (.slice A3 n3 c3), (.slice B3 m3 d3)]) (by simp [results, Tryz.results60, go_sem, hr0, hr1, hr2, hr3, hr4, hr5, hr6, hr7, hr8, hr9, hr10]) rfl ⟨_, _, _, _, _, _, rfl, SR.out.pick [2, 1, 0] [[((.slice A1 n1 c1), ints P.xs), ((.slice B1 m1 d1), ints P.ys)], [((.slice A2 n2 c2), ints Q.xs), ((.slice B2 m2 d2), ints Q.ys)], [((.slice A3 n3 c3), ints R.xs), ((.slice B3 m3 d3), ints R.ys)]] (by decide) rfl, SR.out.below⟩
/-- Where a link with the ends C, E stands: all before it are less; is it there? -/
def PlaceAt (zs : List Lr) (C E : Int) (i : Nat) (f : Bool) : Prop :=
  i ≤ zs.length ∧ (∀ (j : Nat) (z : Lr), j < i → zs[j]? = some z → cmpK z.A z.B C E < 0) ∧ (∀ z : Lr, zs[i]? = some z → 0 ≤ cmpK z.A z.B C E ∧ f = decide (cmpK z.A z.B C E = 0)) ∧ (i = zs.length → f = false)
end Go.Proofs.YtgjaennedihckaaGreat
