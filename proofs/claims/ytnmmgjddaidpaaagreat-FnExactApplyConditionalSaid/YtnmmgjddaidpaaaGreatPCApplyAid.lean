/- ApplyConditional: the law's words. Conditions: none. -/
import Derived.Test.YtnmmgjddaidpaaaGreatPCApply
import Derived.Deep.MidRow
namespace Go.Proofs.YtnmmgjddaidpaaaGreat
open Go.RowKit Nt Fr
set_option linter.unusedVariables false
theorem apk_good {ok : Bool} {F : Fr} (h : F.Good) : (apk ok F).Good := by unfold apk; split; exact h; exact .inr rfl
set_option maxRecDepth 100000 in
set_option maxHeartbeats 4000000 in
theorem heldPoint_f (s1 s2 : Bool) (p0 p1 q0 q1 : Value) (X1 X2 X3 X4 : List Value) (w : World) (k base : Nat) (K : Int) (hK : K = (k : Int)) (h : Owns w base (markL k [(p0, X1), (p1, X2), (q0, X3), (q1, X4)])) (hn : k + lenL [(p0, X1), (p1, X2), (q0, X3), (q1, X4)] ≤ 1099511627776) :
   Calls Tryz.prog 27 #[.agg #[.bool s1, p0, p1, .bool s2, q0, q1], .int .i64 K] w fun e w' => e = .returned (.int .i64 ((k + lenL [(p0, X1), (p1, X2), (q0, X3), (q1, X4)] : Nat) : Int)) ∧ Below w.heap.size w w' := by
 have e3 : lenL [(p0, X1), (p1, X2), (q0, X3), (q1, X4)] = lenL [(p0, X1), (p1, X2)] + lenL [(q0, X3), (q1, X4)] := by simp [lenL]; omega
 obtain ⟨n1, hn1⟩ : ∃ n, lenL [(p0, X1), (p1, X2)] = n := ⟨_, rfl⟩
 obtain ⟨n2, hn2⟩ : ∃ n, lenL [(q0, X3), (q1, X4)] = n := ⟨_, rfl⟩
 have hm : markL k [(p0, X1), (p1, X2), (q0, X3), (q1, X4)] = markL k [(p0, X1), (p1, X2)] ++ markL (k + n1) [(q0, X3), (q1, X4)] := by
   rw [show [(p0, X1), (p1, X2), (q0, X3), (q1, X4)] = [(p0, X1), (p1, X2)] ++ [(q0, X3), (q1, X4)] from rfl, markL_app, hn1]
 rw [e3, hn1, hn2] at hn ⊢
 have HN1 := Lib.hid hn1
 have HN2 := Lib.hid hn2
 rw [hm] at h
 have HO := Lib.hid h
 clear h e3 hn1 hn2 hm
 have HK := Lib.hid hK
 clear hK
 have S_1 := Lib.hid (show St w (w.alloc (.cells #[.bool s1, p0, p1, .bool s2, q0, q1] 50)) [(w.heap.size, [.bool s1, p0, p1, .bool s2, q0, q1])] [] from ((St.start w).alloc_at (b := w.heap.size) [.bool s1, p0, p1, .bool s2, q0, q1] 50 (by first | rfl | simp)))
 go_enter Tryz.func27, Tryz.ntmps27
 go_wp2_with fail
 refine (heldRat_f p0 p1 _ s1 X1 X2 k base K HK.out (HO.out.left.below S_1.out.below) (by rw [HN1.out]; omega)).mono ?_
 rintro e w1 ⟨rfl, hb⟩
 rw [HN1.out]
 have S_2 := Lib.hid (S_1.out.call hb)
 clear S_1
 clear hb
 have hk_0 := S_2.out.cell 0 0 rfl rfl
 have hk_1 := S_2.out.cell 0 1 rfl rfl
 have hk_2 := S_2.out.cell 0 2 rfl rfl
 have hk_3 := S_2.out.cell 0 3 rfl rfl
 have hk_4 := S_2.out.cell 0 4 rfl rfl
 have hk_5 := S_2.out.cell 0 5 rfl rfl
 go_wp2_with fail
 refine (heldRat_f q0 q1 _ s2 X3 X4 (k + n1) base _ (by first | rfl | omega) (HO.out.right.below S_2.out.below) (by rw [HN2.out]; omega)).mono ?_
 rintro e w2 ⟨rfl, hb⟩
 rw [HN2.out]
 have S_3 := Lib.hid (S_2.out.call hb)
 clear S_2 hb
 clear hk_0 hk_1 hk_2 hk_3 hk_4 hk_5
 go_wp2
 go_ret
 exact ⟨ret_int (by omega), S_3.out.below⟩
end Go.Proofs.YtnmmgjddaidpaaaGreat
