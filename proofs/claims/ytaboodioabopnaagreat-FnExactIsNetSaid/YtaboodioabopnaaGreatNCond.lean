/- Conditionals: the laws' helpers, and an argument opened. Conditions: none. -/
import Derived.Test.YtaboodioabopnaaGreatNRecParent
namespace Go.Proofs.YtaboodioabopnaaGreat
open Go.ChangeShapes Go.WideShapes Go.ChangeAt Go.RowKit Go.Joins Go.Deep Nt Fr
set_option linter.unusedVariables false
abbrev PaRow := RRow 10 1 3
abbrev PaArg := RArg 10 1 3
def OwnC (N : Int) (T : Fr) (zs : List Rc) (w : World) (e : Ending) (w' : World) : Prop :=
 ∃ t0 t1 b ys, e = .returned (.agg #[.int .i64 N, .bool T.s, t0, t1, .slice (some ⟨b, 0, none⟩) zs.length zs.length]) ∧ dats ys = dats zs ∧ (∀ y ∈ ys, y.sh 1 3) ∧ St w w' [(b, cellsR ys)] [rowsR ys, [(t0, ints T.xs), (t1, ints T.ys)]]
set_option maxRecDepth 100000 in
set_option maxHeartbeats 4000000 in
theorem szConditional_f (N : Int) (T : Fr) (t0 t1 : Value) (A : Option Addr) (n c : Nat) (zs : List Rc) (w : World) (k : Int) (h0 : 0 ≤ k) (h1 : k ≤ 1048576) (hT : FrI w T t0 t1) (hA : PaRow w A n zs) (hn : n ≤ 9223372036854775807) :
   Calls Tryz.prog 23 #[.agg #[.int .i64 N, .bool T.s, t0, t1, (.slice A n c)], .int .i64 k] w fun e w' => e = .returned (.int .i64 (szOf k (T.len + n + lensR zs))) ∧ Below w.heap.size w w' := by
 have HT := Lib.hid hT
 have HA := Lib.hid hA
 clear hT hA
 have S_1 := Lib.hid (show St w (w.alloc (.cells #[.int .i64 N, .bool T.s, t0, t1, (.slice A n c)] 57)) [(w.heap.size, [.int .i64 N, .bool T.s, t0, t1, (.slice A n c)])] [] from ((St.start w).alloc_at (b := w.heap.size) [.int .i64 N, .bool T.s, t0, t1, (.slice A n c)] 57 (by first | rfl | simp)))
 go_enter Tryz.func23, Tryz.ntmps23
 go_wp2_with fail
 refine (szRat_f T t0 t1 _ (k) (by omega) (by omega) (S_1.out.frI HT.out)).mono ?_
 rintro e w1 ⟨rfl, hb⟩
 have S_2 := Lib.hid (S_1.out.call hb)
 clear S_1
 clear hb
 by_cases hs : k < (T.len : Int)
 · rw [szOf_neg hs]
   go_wp2
   go_ret
   exact ⟨ret_int (szOf_neg (by omega)).symm, S_2.out.below⟩
 · rw [szOf_pos hs]
   obtain ⟨k0, hk0⟩ : ∃ q : Int, k - (T.len : Int) = q := ⟨_, rfl⟩
   rw [hk0]
   have hk_a_0_2 := S_2.out.cell 0 0 rfl rfl
   have hk_a_1_2 := S_2.out.cell 0 1 rfl rfl
   have hk_a_2_2 := S_2.out.cell 0 2 rfl rfl
   have hk_a_3_2 := S_2.out.cell 0 3 rfl rfl
   have hk_a_4_2 := S_2.out.cell 0 4 rfl rfl
   go_wp2_with fail
   refine (szParentS_any A n c zs k0 _ (by omega) (by omega) (HA.out.below S_2.out.below) hn).mono ?_
   rintro e w2 ⟨rfl, hb⟩
   have S_3 := Lib.hid (S_2.out.call hb)
   clear S_2
   clear hb
   clear hk_a_0_2 hk_a_1_2 hk_a_2_2 hk_a_3_2 hk_a_4_2
   by_cases hs2 : k0 < ((n + lensR zs : Nat) : Int)
   · rw [szOf_neg hs2]
     go_wp2
     go_ret
     exact ⟨ret_int (szOf_neg (by omega)).symm, S_3.out.below⟩
   · rw [szOf_pos hs2]
     obtain ⟨k1, hk1⟩ : ∃ q : Int, k0 - ((n + lensR zs : Nat) : Int) = q := ⟨_, rfl⟩
     rw [hk1]
     go_wp2
     go_ret
     exact ⟨ret_int (by rw [szOf_pos (by omega)]; omega), S_3.out.below⟩
set_option maxRecDepth 100000 in
set_option maxHeartbeats 4000000 in
theorem toConditional_f (N : Int) (T : Fr) (t0 t1 : Value) (A : Option Addr) (n c : Nat) (zs : List Rc) (w : World) (hT : FrI w T t0 t1) (hA : PaRow w A n zs) (hl : T.len + n + lensR zs ≤ 1048576) :
   Calls Tryz.prog 25 #[.agg #[.int .i64 N, .bool T.s, t0, t1, (.slice A n c)]] w (OwnC N T zs w) := by
 have HT := Lib.hid hT
 have HA := Lib.hid hA
 clear hT hA
 have S_1 := Lib.hid (show St w (((w.alloc (.cells #[.int .i64 N, .bool T.s, t0, t1, (.slice A n c)] 57)).alloc (.cells #[.int .i64 0, .bool false, .slice none 0 0, .slice none 0 0, .slice none 0 0] 60)).alloc (.cells #[.int .i64 N, .bool false, .slice none 0 0, .slice none 0 0, .slice none 0 0] 60)) [(w.heap.size + 1 + 1, [.int .i64 N, .bool false, .slice none 0 0, .slice none 0 0, .slice none 0 0]), (w.heap.size + 1, [.int .i64 0, .bool false, .slice none 0 0, .slice none 0 0, .slice none 0 0]), (w.heap.size, [.int .i64 N, .bool T.s, t0, t1, (.slice A n c)])] [] from ((((St.start w).alloc_at (b := w.heap.size) [.int .i64 N, .bool T.s, t0, t1, (.slice A n c)] 57 (by first | rfl | simp)).alloc_at (b := w.heap.size + 1) [.int .i64 0, .bool false, .slice none 0 0, .slice none 0 0, .slice none 0 0] 60 (by first | rfl | simp)).alloc_at (b := w.heap.size + 1 + 1) [.int .i64 N, .bool false, .slice none 0 0, .slice none 0 0, .slice none 0 0] 60 (by first | rfl | simp)))
 have hne_out_res : w.heap.size + 1 + 1 ≠ w.heap.size + 1 := by omega
 have hne_out_a : w.heap.size + 1 + 1 ≠ w.heap.size := by omega
 have hne_res_out : w.heap.size + 1 ≠ w.heap.size + 1 + 1 := by omega
 have hne_res_a : w.heap.size + 1 ≠ w.heap.size := by omega
 have hne_a_out : w.heap.size ≠ w.heap.size + 1 + 1 := by omega
 have hne_a_res : w.heap.size ≠ w.heap.size + 1 := by omega
 go_enter Tryz.func25, Tryz.ntmps25
 go_wp2_with fail
 refine (toRat_f T t0 t1 _ (S_1.out.frI HT.out) (by omega)).mono ?_
 rintro e w1 ⟨v1, u1, rfl, ho, hb⟩
 obtain ⟨A1, n1, c1, rfl⟩ := (ho.at_ 0 rfl).shape3
 obtain ⟨B1, m1, d1, rfl⟩ := (ho.at_ 1 rfl).shape3
 have S_2 := Lib.hid (S_1.out.rows ho hb)
 clear S_1
 clear ho hb
 have hk_a_0_2 := S_2.out.cell 2 0 rfl rfl
 have hk_a_1_2 := S_2.out.cell 2 1 rfl rfl
 have hk_a_2_2 := S_2.out.cell 2 2 rfl rfl
 have hk_a_3_2 := S_2.out.cell 2 3 rfl rfl
 have hk_a_4_2 := S_2.out.cell 2 4 rfl rfl
 have hk_out_0_2 := S_2.out.cell 0 0 rfl rfl
 have hk_out_0_2f := S_2.out.froz 0 0 rfl rfl
 have hk_out_1_2 := S_2.out.cell 0 1 rfl rfl
 have hk_out_1_2f := S_2.out.froz 0 1 rfl rfl
 have hk_out_2_2 := S_2.out.cell 0 2 rfl rfl
 have hk_out_2_2f := S_2.out.froz 0 2 rfl rfl
 have hk_out_3_2 := S_2.out.cell 0 3 rfl rfl
 have hk_out_3_2f := S_2.out.froz 0 3 rfl rfl
 have hk_out_4_2 := S_2.out.cell 0 4 rfl rfl
 have hk_out_4_2f := S_2.out.froz 0 4 rfl rfl
 go_wp2_with fail
 clear hk_a_0_2 hk_a_1_2 hk_a_2_2 hk_a_3_2 hk_a_4_2 hk_out_0_2 hk_out_0_2f hk_out_1_2 hk_out_1_2f hk_out_2_2 hk_out_2_2f hk_out_3_2 hk_out_3_2f hk_out_4_2 hk_out_4_2f
 have S_3 := Lib.hid (show St w (((w1.setCell ⟨w.heap.size + 1 + 1, 1, none⟩ (.bool T.s)).setCell ⟨w.heap.size + 1 + 1, 2, none⟩ ((.slice A1 n1 c1))).setCell ⟨w.heap.size + 1 + 1, 3, none⟩ ((.slice B1 m1 d1))) [(w.heap.size + 1 + 1, [.int .i64 N, .bool T.s, (.slice A1 n1 c1), (.slice B1 m1 d1), .slice none 0 0]), (w.heap.size + 1, [.int .i64 0, .bool false, .slice none 0 0, .slice none 0 0, .slice none 0 0]), (w.heap.size, [.int .i64 N, .bool T.s, t0, t1, (.slice A n c)])] [[((.slice A1 n1 c1), ints T.xs), ((.slice B1 m1 d1), ints T.ys)]] from (((S_2.out.set 0 1 (.bool T.s) rfl rfl).set 0 2 ((.slice A1 n1 c1)) rfl rfl).set 0 3 ((.slice B1 m1 d1)) rfl rfl))
 clear S_2
 obtain ⟨u1, hu1⟩ : ∃ u, (((w1.setCell ⟨w.heap.size + 1 + 1, 1, none⟩ (.bool T.s)).setCell ⟨w.heap.size + 1 + 1, 2, none⟩ ((.slice A1 n1 c1))).setCell ⟨w.heap.size + 1 + 1, 3, none⟩ ((.slice B1 m1 d1))) = u := ⟨_, rfl⟩
 rw [hu1] at S_3 ⊢
 clear hu1
 refine (toParentS_any A n c zs _ (HA.out.below S_3.out.below) (by omega)).mono ?_
 rintro e w2 ⟨bp, ys, rfl, hd, hsh, hst⟩
 have HD := Lib.hid hd
 have HSH := Lib.hid hsh
 have S_4 := Lib.hid (S_3.out.over hst)
 clear S_3
 clear hd hsh hst
 have ko0 := S_4.out.cell 1 0 rfl rfl
 have ko0f := S_4.out.froz 1 0 rfl rfl
 have kr0 := S_4.out.cell 2 0 rfl rfl
 have kr0f := S_4.out.froz 2 0 rfl rfl
 have ko1 := S_4.out.cell 1 1 rfl rfl
 have ko1f := S_4.out.froz 1 1 rfl rfl
 have kr1 := S_4.out.cell 2 1 rfl rfl
 have kr1f := S_4.out.froz 2 1 rfl rfl
 have ko2 := S_4.out.cell 1 2 rfl rfl
 have ko2f := S_4.out.froz 1 2 rfl rfl
 have kr2 := S_4.out.cell 2 2 rfl rfl
 have kr2f := S_4.out.froz 2 2 rfl rfl
 have ko3 := S_4.out.cell 1 3 rfl rfl
 have ko3f := S_4.out.froz 1 3 rfl rfl
 have kr3 := S_4.out.cell 2 3 rfl rfl
 have kr3f := S_4.out.froz 2 3 rfl rfl
 have ko4 := S_4.out.cell 1 4 rfl rfl
 have ko4f := S_4.out.froz 1 4 rfl rfl
 have kr4 := S_4.out.cell 2 4 rfl rfl
 have kr4f := S_4.out.froz 2 4 rfl rfl
 go_wp2
 have SR := Lib.hid ((S_4.out.set 1 4 (.slice (some ⟨bp, 0, none⟩) zs.length zs.length) rfl rfl).setAll 2 [.int .i64 N, .bool T.s, (.slice A1 n1 c1), (.slice B1 m1 d1), .slice (some ⟨bp, 0, none⟩) zs.length zs.length] rfl rfl)
 exact bodyPost_ret (v := .agg #[.int .i64 N, .bool T.s, (.slice A1 n1 c1), (.slice B1 m1 d1), .slice (some ⟨bp, 0, none⟩) zs.length zs.length]) (by simp [results, Tryz.results25, go_sem, kr0, kr1, kr2, kr3, kr4]) rfl ⟨_, _, bp, ys, rfl, HD.out, HSH.out, SR.out.sub (List.Sublist.cons_cons _ (List.nil_sublist _)) (List.Sublist.refl _)⟩
set_option maxRecDepth 100000 in
set_option maxHeartbeats 4000000 in
theorem eqConditional_f (N : Int) (T : Fr) (t0 t1 u0 u1 : Value) (A B : Option Addr) (n c d : Nat) (ys zs : List Rc) (w : World) (hT : FrI w T t0 t1) (hU : FrI w T u0 u1) (hA : PaRow w A n ys) (hB : PaRow w B n zs) (hlk : dats ys = dats zs) (hn : n ≤ 1048576) :
   Calls Tryz.prog 28 #[.agg #[.int .i64 N, .bool T.s, t0, t1, (.slice A n c)], .agg #[.int .i64 N, .bool T.s, u0, u1, (.slice B n d)]] w fun e w' => e = .returned (.bool true) ∧ Below w.heap.size w w' := by
 have HT := Lib.hid hT
 have HU := Lib.hid hU
 have HA := Lib.hid hA
 have HB := Lib.hid hB
 clear hT hU hA hB
 have S_1 := Lib.hid (show St w ((w.alloc (.cells #[.int .i64 N, .bool T.s, t0, t1, (.slice A n c)] 60)).alloc (.cells #[.int .i64 N, .bool T.s, u0, u1, (.slice B n d)] 60)) [(w.heap.size + 1, [.int .i64 N, .bool T.s, u0, u1, (.slice B n d)]), (w.heap.size, [.int .i64 N, .bool T.s, t0, t1, (.slice A n c)])] [] from (((St.start w).alloc_at (b := w.heap.size) [.int .i64 N, .bool T.s, t0, t1, (.slice A n c)] 60 (by first | rfl | simp)).alloc_at (b := w.heap.size + 1) [.int .i64 N, .bool T.s, u0, u1, (.slice B n d)] 60 (by first | rfl | simp)))
 have hne_b_a : w.heap.size + 1 ≠ w.heap.size := by omega
 have hne_a_b : w.heap.size ≠ w.heap.size + 1 := by omega
 go_enter Tryz.func28, Tryz.ntmps28
 go_wp2_with fail
 refine (eqRat_f T t0 t1 _ u0 u1 (S_1.out.frI HT.out) (S_1.out.frI HU.out)).mono ?_
 rintro e w1 ⟨rfl, hb⟩
 have S_2 := Lib.hid (S_1.out.call hb)
 clear S_1
 clear hb
 have hk_a_0_2 := S_2.out.cell 1 0 rfl rfl
 have hk_a_1_2 := S_2.out.cell 1 1 rfl rfl
 have hk_a_2_2 := S_2.out.cell 1 2 rfl rfl
 have hk_a_3_2 := S_2.out.cell 1 3 rfl rfl
 have hk_a_4_2 := S_2.out.cell 1 4 rfl rfl
 have hk_b_0_2 := S_2.out.cell 0 0 rfl rfl
 have hk_b_1_2 := S_2.out.cell 0 1 rfl rfl
 have hk_b_2_2 := S_2.out.cell 0 2 rfl rfl
 have hk_b_3_2 := S_2.out.cell 0 3 rfl rfl
 have hk_b_4_2 := S_2.out.cell 0 4 rfl rfl
 go_wp2_with fail
 refine (eqParentS_same A B n c d ys zs _ (HA.out.below S_2.out.below) (HB.out.below S_2.out.below) hlk hn).mono ?_
 rintro e w2 ⟨rfl, hb⟩
 have S_3 := Lib.hid (S_2.out.call hb)
 clear S_2
 clear hb
 clear hk_a_0_2 hk_a_1_2 hk_a_2_2 hk_a_3_2 hk_a_4_2 hk_b_0_2 hk_b_1_2 hk_b_2_2 hk_b_3_2 hk_b_4_2
 go_wp2
 go_ret
 exact ⟨rfl, S_3.out.below⟩
def condT (Pg : Program) (t tr tp te : TypeId) : Prop :=
 RatT Pg tr ∧ parentRcT Pg te tr ∧ Pg.underlying tp = some (.slice te) ∧ ∃ f0 f1 f2 : Field, Pg.underlying t = some (.struct #[f0, f1, f2]) ∧ (f0.offset = 0 ∧ f1.offset = 1 ∧ f2.offset = 4) ∧ (Pg.cellsOf f0.type = 1 ∧ Pg.cellsOf tr = 3 ∧ Pg.cellsOf tp = 1) ∧ (f1.type = tr ∧ f2.type = tp) ∧ Pg.underlying f0.type = some (.int .i64) ∧ Pg.cellsOf t = 5
theorem condT_p : condT Tryz.prog 57 54 55 117 :=
 ⟨ratT, parentRcT_p, Tryz.underlying55, _, _, _, Tryz.underlying57, ⟨rfl, rfl, rfl⟩, ⟨by kernel_rfl, by kernel_rfl, by kernel_rfl⟩, ⟨rfl, rfl⟩, Tryz.underlying3, by kernel_rfl⟩
end Go.Proofs.YtaboodioabopnaaGreat
