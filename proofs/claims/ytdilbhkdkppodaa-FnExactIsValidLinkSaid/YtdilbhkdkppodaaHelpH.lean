/- The laws' helpers: links marked. Conditions: none. -/
import Derived.Test.YtdilbhkdkppodaaHelpF
namespace Go.Proofs.Ytdilbhkdkppodaa
open Go.RowKit Nt Fr
set_option linter.unusedVariables false

theorem Owns.part {w : World} {base : Nat} {l : Chunk} (h : Owns w base l) (a b c : Chunk) (e : l = a ++ (b ++ c)) : Owns w base b := by subst e; exact h.right.left
theorem Owns.head {w : World} {base : Nat} {l : Chunk} (h : Owns w base l) (a c : Chunk) (e : l = a ++ c) : Owns w base a := by subst e; exact h.left
/-- Two chunks, the first marked, then the second. -/
theorem Marked.join {l m : Chunk} {k base : Nat} {w w1 w2 : World} (h : Owns w base (l ++ m)) (h1 : Owns w1 base (markL k l)) (t1 : Turned w w1 (blks l)) (h2 : Owns w2 base (markL (k + lenL l) m)) (t2 : Turned w1 w2 (blks m)) :
    Owns w2 base (markL k (l ++ m)) ∧ Turned w w2 (blks (l ++ m)) := by
  have hf : FarL (markL k l) (markL (k + lenL l) m) := by
    intro p hp q hq
    have a : p.1 ∈ l.map Prod.fst := by rw [← markL_fst l k]; exact List.mem_map_of_mem hp
    have b : q.1 ∈ m.map Prod.fst := by rw [← markL_fst m (k + lenL l)]; exact List.mem_map_of_mem hq
    obtain ⟨p', hp', e1⟩ := List.mem_map.mp a
    obtain ⟨q', hq', e2⟩ := List.mem_map.mp b
    rw [← e1, ← e2]
    exact h.far p' hp' q' hq'
  refine ⟨?_, by rw [blks_app]; exact t1.trans t2⟩
  rw [markL_app]
  refine Owns.app ⟨fun p hp => t2.own (h1.1 p hp) fun x hx => ?_, h1.2⟩ h2 hf
  have : x ∈ blks (markL (k + lenL l) m) := by
    have e : blks (markL (k + lenL l) m) = blks m := by
      unfold blks
      have := congrArg (List.map Value.ownBlock) (markL_fst m (k + lenL l))
      simpa [List.map_map, Function.comp_def] using this
    rw [e]; exact hx
  obtain ⟨q, hq, rfl⟩ := List.mem_map.mp this
  exact hf p hp q hq
theorem Turned.owns {w w' : World} {base : Nat} {l m : Chunk} (t : Turned w w' (blks l)) (h : Owns w base m) (hf : FarL m l) : Owns w' base m :=
  ⟨fun p hp => t.own (h.1 p hp) fun x hx => by obtain ⟨q, hq, rfl⟩ := List.mem_map.mp hx; exact hf p hp q hq, h.2⟩
theorem Below.turned0 {w0 w w' : World} {bl : List (Option Nat)} (h : Below w0.heap.size w0 w) (t : Turned w w' bl) : Turned w0 w' bl :=
  ⟨t.os.trans h.os, t.tape.trans h.tape, t.output.trans h.output, Nat.le_trans h.size t.size, fun k hk hn => (t.block k (Nat.lt_of_lt_of_le hk h.size) hn).trans (h.block k hk)⟩
set_option maxRecDepth 100000 in
set_option maxHeartbeats 4000000 in
theorem markLink_f (A B : Int) (s1 s2 s3 : Bool) (p0 p1 q0 q1 r0 r1 : Value) (X1 X2 X3 X4 X5 X6 : List Value) (w : World) (k base : Nat) (K : Int) (hK : K = (k : Int)) (h : Owns w base [(p0, X1), (p1, X2), (q0, X3), (q1, X4), (r0, X5), (r1, X6)]) (hn : k + lenL [(p0, X1), (p1, X2), (q0, X3), (q1, X4), (r0, X5), (r1, X6)] ≤ 1099511627776) :
    Calls Try.prog 14 #[.agg #[.int .i64 A, .int .i64 B, .bool s1, p0, p1, .bool s2, q0, q1, .bool s3, r0, r1], .int .i64 K] w (Marked [(p0, X1), (p1, X2), (q0, X3), (q1, X4), (r0, X5), (r1, X6)] k base w) := by
  have e3 : lenL [(p0, X1), (p1, X2), (q0, X3), (q1, X4), (r0, X5), (r1, X6)] = lenL [(p0, X1), (p1, X2)] + (lenL [(q0, X3), (q1, X4)] + lenL [(r0, X5), (r1, X6)]) := by simp [lenL]; omega
  obtain ⟨n1, hn1⟩ : ∃ n, lenL [(p0, X1), (p1, X2)] = n := ⟨_, rfl⟩
  obtain ⟨n2, hn2⟩ : ∃ n, lenL [(q0, X3), (q1, X4)] = n := ⟨_, rfl⟩
  obtain ⟨n3, hn3⟩ : ∃ n, lenL [(r0, X5), (r1, X6)] = n := ⟨_, rfl⟩
  rw [e3, hn1, hn2, hn3] at hn
  have HE := Lib.hid e3
  have HN1 := Lib.hid hn1
  have HN2 := Lib.hid hn2
  have HN3 := Lib.hid hn3
  have HO := Lib.hid h
  clear h e3 hn1 hn2 hn3
  have HK := Lib.hid hK
  clear hK
  have S_1 := Lib.hid (show St w (w.alloc (.cells #[.int .i64 A, .int .i64 B, .bool s1, p0, p1, .bool s2, q0, q1, .bool s3, r0, r1] 35)) [(w.heap.size, [.int .i64 A, .int .i64 B, .bool s1, p0, p1, .bool s2, q0, q1, .bool s3, r0, r1])] [] from ((St.start w).alloc_at (b := w.heap.size) [.int .i64 A, .int .i64 B, .bool s1, p0, p1, .bool s2, q0, q1, .bool s3, r0, r1] 35 (by first | rfl | simp)))
  go_enter Try.func14, Try.ntmps14
  go_wp2_with fail
  have KA_0 := Lib.hid (HeldL.new w [.int .i64 A, .int .i64 B, .bool s1, p0, p1, .bool s2, q0, q1, .bool s3, r0, r1] 35)
  have HOA := Lib.hid (HO.out.below S_1.out.below)
  have HB_0 := Lib.hid S_1.out.below
  clear S_1
  have HNB := Lib.hid (show ∀ p ∈ [(p0, X1), (p1, X2), (q0, X3), (q1, X4), (r0, X5), (r1, X6)], ∀ q, p.1.ownBlock = some q → q < w.heap.size from fun p hp q hq => ((HO.out.1 p hp).lt q hq).2)
  refine (markRat_f p0 p1 _ s1 X1 X2 k base K HK.out (HOA.out.head _ _ rfl) (by rw [HN1.out]; omega)).mono ?_
  rintro e w1 ⟨rfl, ho1, ht1⟩
  rw [HN1.out]
  have O1 := Lib.hid ho1
  have T1 := Lib.hid ht1
  clear ho1 ht1
  have KA_1 := Lib.hid (T1.out.held KA_0.out (fun hx => by obtain ⟨q, hq, e⟩ := List.mem_map.mp hx; exact absurd (HNB.out q (List.mem_append_left _ hq) _ e) (Nat.lt_irrefl _)))
  have hk_0 := KA_1.out.cell 0 _ rfl
  have hk_1 := KA_1.out.cell 1 _ rfl
  have hk_2 := KA_1.out.cell 2 _ rfl
  have hk_3 := KA_1.out.cell 3 _ rfl
  have hk_4 := KA_1.out.cell 4 _ rfl
  have hk_5 := KA_1.out.cell 5 _ rfl
  have hk_6 := KA_1.out.cell 6 _ rfl
  have hk_7 := KA_1.out.cell 7 _ rfl
  have hk_8 := KA_1.out.cell 8 _ rfl
  have hk_9 := KA_1.out.cell 9 _ rfl
  have hk_10 := KA_1.out.cell 10 _ rfl
  have R1 := Lib.hid (T1.out.owns (Owns.right (l := [(p0, X1), (p1, X2)]) HOA.out) (Owns.far (l := [(p0, X1), (p1, X2)]) HOA.out).symm)
  go_wp2_with fail
  clear hk_0 hk_1 hk_2 hk_3 hk_4 hk_5 hk_6 hk_7 hk_8 hk_9 hk_10
  refine (markRat_f q0 q1 _ s2 X3 X4 (k + n1) base _ (by first | rfl | omega) (R1.out.head _ _ rfl) (by rw [HN2.out]; omega)).mono ?_
  rintro e w2 ⟨rfl, ho2, ht2⟩
  rw [HN2.out]
  have O2 := Lib.hid ho2
  have T2 := Lib.hid ht2
  clear ho2 ht2
  have KA_2 := Lib.hid (T2.out.held KA_1.out (fun hx => by obtain ⟨q, hq, e⟩ := List.mem_map.mp hx; exact absurd (HNB.out q (List.mem_append_right [(p0, X1), (p1, X2)] (List.mem_append_left _ hq)) _ e) (Nat.lt_irrefl _)))
  have hk_0 := KA_2.out.cell 0 _ rfl
  have hk_1 := KA_2.out.cell 1 _ rfl
  have hk_2 := KA_2.out.cell 2 _ rfl
  have hk_3 := KA_2.out.cell 3 _ rfl
  have hk_4 := KA_2.out.cell 4 _ rfl
  have hk_5 := KA_2.out.cell 5 _ rfl
  have hk_6 := KA_2.out.cell 6 _ rfl
  have hk_7 := KA_2.out.cell 7 _ rfl
  have hk_8 := KA_2.out.cell 8 _ rfl
  have hk_9 := KA_2.out.cell 9 _ rfl
  have hk_10 := KA_2.out.cell 10 _ rfl
  have R2 := Lib.hid (T2.out.owns (Owns.right (l := [(q0, X3), (q1, X4)]) R1.out) (Owns.far (l := [(q0, X3), (q1, X4)]) R1.out).symm)
  go_wp2_with fail
  clear hk_0 hk_1 hk_2 hk_3 hk_4 hk_5 hk_6 hk_7 hk_8 hk_9 hk_10
  refine (markRat_f r0 r1 _ s3 X5 X6 (k + n1 + n2) base _ (by first | rfl | omega) R2.out (by rw [HN3.out]; omega)).mono ?_
  rintro e w3 ⟨rfl, ho3, ht3⟩
  rw [HN3.out]
  have O3 := Lib.hid ho3
  have T3 := Lib.hid ht3
  clear ho3 ht3
  have J2 := Marked.join (l := [(q0, X3), (q1, X4)]) (m := [(r0, X5), (r1, X6)]) (k := k + n1) R1.out O2.out T2.out (by rw [HN2.out]; exact O3.out) T3.out
  have J1 := Marked.join (l := [(p0, X1), (p1, X2)]) (m := [(q0, X3), (q1, X4)] ++ [(r0, X5), (r1, X6)]) (k := k) HOA.out O1.out T1.out (by rw [HN1.out]; exact J2.1) J2.2
  have HJ := Lib.hid J1
  clear J1 J2
  go_wp2
  go_ret
  exact ⟨ret_int (by rw [HE.out, HN1.out, HN2.out, HN3.out]; omega), HJ.out.1, Below.turned0 HB_0.out HJ.out.2⟩
set_option maxRecDepth 100000 in
set_option maxHeartbeats 4000000 in
theorem heldLink_f (A B : Int) (s1 s2 s3 : Bool) (p0 p1 q0 q1 r0 r1 : Value) (X1 X2 X3 X4 X5 X6 : List Value) (w : World) (k base : Nat) (K : Int) (hK : K = (k : Int)) (h : Owns w base (markL k [(p0, X1), (p1, X2), (q0, X3), (q1, X4), (r0, X5), (r1, X6)])) (hn : k + lenL [(p0, X1), (p1, X2), (q0, X3), (q1, X4), (r0, X5), (r1, X6)] ≤ 1099511627776) :
    Calls Try.prog 15 #[.agg #[.int .i64 A, .int .i64 B, .bool s1, p0, p1, .bool s2, q0, q1, .bool s3, r0, r1], .int .i64 K] w fun e w' => e = .returned (.int .i64 ((k + lenL [(p0, X1), (p1, X2), (q0, X3), (q1, X4), (r0, X5), (r1, X6)] : Nat) : Int)) ∧ Below w.heap.size w w' := by
  have e3 : lenL [(p0, X1), (p1, X2), (q0, X3), (q1, X4), (r0, X5), (r1, X6)] = lenL [(p0, X1), (p1, X2)] + (lenL [(q0, X3), (q1, X4)] + lenL [(r0, X5), (r1, X6)]) := by simp [lenL]; omega
  obtain ⟨n1, hn1⟩ : ∃ n, lenL [(p0, X1), (p1, X2)] = n := ⟨_, rfl⟩
  obtain ⟨n2, hn2⟩ : ∃ n, lenL [(q0, X3), (q1, X4)] = n := ⟨_, rfl⟩
  obtain ⟨n3, hn3⟩ : ∃ n, lenL [(r0, X5), (r1, X6)] = n := ⟨_, rfl⟩
  have hm : markL k [(p0, X1), (p1, X2), (q0, X3), (q1, X4), (r0, X5), (r1, X6)] = markL k [(p0, X1), (p1, X2)] ++ (markL (k + n1) [(q0, X3), (q1, X4)] ++ markL (k + n1 + n2) [(r0, X5), (r1, X6)]) := by
    rw [show [(p0, X1), (p1, X2), (q0, X3), (q1, X4), (r0, X5), (r1, X6)] = [(p0, X1), (p1, X2)] ++ ([(q0, X3), (q1, X4)] ++ [(r0, X5), (r1, X6)]) from rfl, markL_app, markL_app, hn1, hn2]
  rw [e3, hn1, hn2, hn3] at hn ⊢
  have HN1 := Lib.hid hn1
  have HN2 := Lib.hid hn2
  have HN3 := Lib.hid hn3
  rw [hm] at h
  have HO := Lib.hid h
  clear h e3 hn1 hn2 hn3 hm
  have HK := Lib.hid hK
  clear hK
  have S_1 := Lib.hid (show St w (w.alloc (.cells #[.int .i64 A, .int .i64 B, .bool s1, p0, p1, .bool s2, q0, q1, .bool s3, r0, r1] 35)) [(w.heap.size, [.int .i64 A, .int .i64 B, .bool s1, p0, p1, .bool s2, q0, q1, .bool s3, r0, r1])] [] from ((St.start w).alloc_at (b := w.heap.size) [.int .i64 A, .int .i64 B, .bool s1, p0, p1, .bool s2, q0, q1, .bool s3, r0, r1] 35 (by first | rfl | simp)))
  go_enter Try.func15, Try.ntmps15
  go_wp2_with fail
  refine (heldRat_f p0 p1 _ s1 X1 X2 k base K HK.out (HO.out.left.below S_1.out.below) (by rw [HN1.out]; omega)).mono ?_
  rintro e w1 ⟨rfl, hb⟩
  rw [HN1.out]
  have S_2 := Lib.hid (S_1.out.call hb)
  clear S_1
  clear hb
  have hk_a_0_2 := S_2.out.cell 0 0 rfl rfl
  have hk_a_1_2 := S_2.out.cell 0 1 rfl rfl
  have hk_a_2_2 := S_2.out.cell 0 2 rfl rfl
  have hk_a_3_2 := S_2.out.cell 0 3 rfl rfl
  have hk_a_4_2 := S_2.out.cell 0 4 rfl rfl
  have hk_a_5_2 := S_2.out.cell 0 5 rfl rfl
  have hk_a_6_2 := S_2.out.cell 0 6 rfl rfl
  have hk_a_7_2 := S_2.out.cell 0 7 rfl rfl
  have hk_a_8_2 := S_2.out.cell 0 8 rfl rfl
  have hk_a_9_2 := S_2.out.cell 0 9 rfl rfl
  have hk_a_10_2 := S_2.out.cell 0 10 rfl rfl
  go_wp2_with fail
  refine (heldRat_f q0 q1 _ s2 X3 X4 (k + n1) base _ (by first | rfl | omega) (HO.out.right.left.below S_2.out.below) (by rw [HN2.out]; omega)).mono ?_
  rintro e w2 ⟨rfl, hb⟩
  rw [HN2.out]
  have S_3 := Lib.hid (S_2.out.call hb)
  clear S_2
  clear hb
  clear hk_a_0_2 hk_a_1_2 hk_a_2_2 hk_a_3_2 hk_a_4_2 hk_a_5_2 hk_a_6_2 hk_a_7_2 hk_a_8_2 hk_a_9_2 hk_a_10_2
  have hk_a_0_3 := S_3.out.cell 0 0 rfl rfl
  have hk_a_1_3 := S_3.out.cell 0 1 rfl rfl
  have hk_a_2_3 := S_3.out.cell 0 2 rfl rfl
  have hk_a_3_3 := S_3.out.cell 0 3 rfl rfl
  have hk_a_4_3 := S_3.out.cell 0 4 rfl rfl
  have hk_a_5_3 := S_3.out.cell 0 5 rfl rfl
  have hk_a_6_3 := S_3.out.cell 0 6 rfl rfl
  have hk_a_7_3 := S_3.out.cell 0 7 rfl rfl
  have hk_a_8_3 := S_3.out.cell 0 8 rfl rfl
  have hk_a_9_3 := S_3.out.cell 0 9 rfl rfl
  have hk_a_10_3 := S_3.out.cell 0 10 rfl rfl
  go_wp2_with fail
  refine (heldRat_f r0 r1 _ s3 X5 X6 (k + n1 + n2) base _ (by first | rfl | omega) (HO.out.right.right.below S_3.out.below) (by rw [HN3.out]; omega)).mono ?_
  rintro e w3 ⟨rfl, hb⟩
  rw [HN3.out]
  have S_4 := Lib.hid (S_3.out.call hb)
  clear S_3
  clear hb
  clear hk_a_0_3 hk_a_1_3 hk_a_2_3 hk_a_3_3 hk_a_4_3 hk_a_5_3 hk_a_6_3 hk_a_7_3 hk_a_8_3 hk_a_9_3 hk_a_10_3
  go_wp2
  go_ret
  exact ⟨ret_int (by omega), S_4.out.below⟩
end Go.Proofs.Ytdilbhkdkppodaa
