/- Conditionals: IsValidConditional of the model. Conditions: none. -/
import Derived.Test.YtaboodioabopnaaGreatNCondI
import Derived.Test.YtaboodioabopnaaGreatNHand
namespace Go.Proofs.YtaboodioabopnaaGreat
open Go.RowKit Nt Fr
set_option linter.unusedVariables false
set_option maxRecDepth 100000 in
set_option maxHeartbeats 4000000 in
theorem l01In_any (n a b : Int) (w : World) : Calls Tryz.prog 32 #[.int .i64 n, .int .i64 a, .int .i64 b] w fun e w' => e = .returned (.bool (decide (a ≤ n ∧ n ≤ b))) ∧ w' = w := by
 by_cases h1 : a ≤ n
 · by_cases h2 : n ≤ b
   · rw [decide_eq_true ⟨h1, h2⟩]
     go_enter Tryz.func32, Tryz.ntmps32
     go_wp2
     all_goals go_ret
     all_goals exact ⟨rfl, rfl⟩
   · rw [decide_eq_false (fun h => h2 h.2)]
     have h5 : decide (n ≤ b) = false := decide_eq_false h2
     go_enter Tryz.func32, Tryz.ntmps32
     go_wp2
     all_goals go_ret
     all_goals first | exact ⟨rfl, rfl⟩ | exact ⟨congrArg (fun b => Ending.returned (.bool b)) h5, rfl⟩
 · rw [decide_eq_false (fun h => h1 h.1)]
   go_enter Tryz.func32, Tryz.ntmps32
   go_wp2
   all_goals go_ret
   all_goals exact ⟨rfl, rfl⟩
set_option maxRecDepth 100000 in
set_option maxHeartbeats 40000000 in
theorem isValidConditional_s (N : Int) (T : Fr) (t0 t1 : Value) (A : Option Addr) (n c : Nat) (zs : List Rc) (w : World) (hT : FrA w T t0 t1) (hA : PaArg w A n zs) (hn : n ≤ 1048576) :
   Calls Tryz.prog 24 #[.agg #[.int .i64 N, .bool T.s, t0, t1, (.slice A n c)]] w fun e w' => e = .returned (.bool (okC N T (dats zs))) ∧ Below w.heap.size w w' := by
 have HT := Lib.hid hT
 have HA := Lib.hid hA
 have HL := Lib.hid hA.row.len
 obtain ⟨ok, hok⟩ : ∃ z, okC N T (dats zs) = z := ⟨_, rfl⟩
 rw [hok]
 have HOK := Lib.hid hok
 obtain ⟨g, hg⟩ : ∃ z, T.sgn = z := ⟨_, rfl⟩
 have HG := Lib.hid hg
 clear hT hA hok hg
 have S_1 := Lib.hid (show St w (w.alloc (.cells #[.int .i64 N, .bool T.s, t0, t1, (.slice A n c)] 60)) [(w.heap.size, [.int .i64 N, .bool T.s, t0, t1, (.slice A n c)])] [] from ((St.start w).alloc_at (b := w.heap.size) [.int .i64 N, .bool T.s, t0, t1, (.slice A n c)] 60 (by first | rfl | simp)))
 go_enter Tryz.func24, Tryz.ntmps24
 go_wp2_with fail
 refine (ratFromInt_s 0 _ (by decide)).mono ?_
 rintro e w1 ⟨v0, u0, rfl, ho, hb⟩
 obtain ⟨A0, n0, c0, rfl⟩ := (ho.at_ 0 rfl).shape3
 obtain ⟨B0, m0, d0, rfl⟩ := (ho.at_ 1 rfl).shape3
 have S_2 := Lib.hid (S_1.out.rows ho hb)
 clear S_1
 clear ho hb
 have S_3 := Lib.hid (S_2.out.alloc [.bool (Fr.of 0).s, (.slice A0 n0 c0), (.slice B0 m0 d0)] 37)
 clear S_2
 have hne_c_sum := S_3.out.ne 1 0 rfl rfl (by decide)
 have hne_sum_c := S_3.out.ne 0 1 rfl rfl (by decide)
 have hk_c_0_3 := S_3.out.cell 1 0 rfl rfl
 have hk_c_1_3 := S_3.out.cell 1 1 rfl rfl
 have hk_c_2_3 := S_3.out.cell 1 2 rfl rfl
 have hk_c_3_3 := S_3.out.cell 1 3 rfl rfl
 have hk_c_4_3 := S_3.out.cell 1 4 rfl rfl
 have hk_sum_0_3 := S_3.out.cell 0 0 rfl rfl
 have hk_sum_0_3f := S_3.out.froz 0 0 rfl rfl
 have hk_sum_1_3 := S_3.out.cell 0 1 rfl rfl
 have hk_sum_1_3f := S_3.out.froz 0 1 rfl rfl
 have hk_sum_2_3 := S_3.out.cell 0 2 rfl rfl
 have hk_sum_2_3f := S_3.out.froz 0 2 rfl rfl
 go_wp2
 have SX := Lib.hid S_3.out
 go_loopw [10] (fun i wr => ∃ (k : Nat) (S : Fr) (Xs Ys : Value), k ≤ n ∧ i = .int .i64 k ∧ okPa N (dats zs) k ∧ ascPa (dats zs) k ∧ paSum ((dats zs).take k) = S ∧ St w wr [(w1.heap.size, [.bool S.s, Xs, Ys]), (w.heap.size, [.int .i64 N, .bool T.s, t0, t1, (.slice A n c)])] [[(Xs, ints S.xs), (Ys, ints S.ys)]]) (fun i _ => n - (intOf i).toNat)
 case atStart => exact ⟨0, Fr.of 0, _, _, Nat.zero_le _, rfl, fun i z hi => by omega, ascPa_le (Nat.zero_le _), rfl, SX.out⟩
 case round =>
   obtain ⟨k, S, Xs, Ys, hk, rfl, hok, has, hsum, hst⟩ := hrel
   have HV := Lib.hid hok
   have HAS := Lib.hid has
   have HS := Lib.hid hsum
   obtain ⟨As, ns, cs, rfl⟩ := ((hst.own 0 rfl).at_ 0 rfl).shape3
   obtain ⟨Bs, ms, ds, rfl⟩ := ((hst.own 0 rfl).at_ 1 rfl).shape3
   have R_0 := Lib.hid hst
   clear hok has hsum hst SX
   by_cases hlt : k < n
   · obtain ⟨g1, o1, z, rfl, hg1, hz, hr, hs, hc⟩ := HA.out.at_ hlt
     obtain ⟨ZA, ZP, ZQ, ZR, a0, n0, c0, a1, n1, c1, a2, n2, c2, a3, n3, c3, a4, n4, c4, a5, n5, c5, rfl⟩ := Rc.shapes13 hs hr
     have HZ := Lib.hid (dats_get hz)
     have HR := Lib.hid hr
     obtain ⟨r, hr2⟩ : ∃ z, ZP.sgn = z := ⟨_, rfl⟩
     have HRG := Lib.hid hr2
     clear hr2
     have hi0 : (0 : Int) ≤ (k : Int) := by omega
     have hi1 : (k : Int) < (n : Int) := by omega
     have d0 : wr.cell? ⟨g1, o1 + k * 10, none⟩ = some (.int .i64 ZA) := (R_0.out.below.cell (p := ⟨g1, o1 + k * 10, none⟩) hg1).trans (hc 0 _ rfl)
     have d1 : wr.cell? ⟨g1, o1 + k * 10 + 1, none⟩ = some (.bool ZP.s) := (R_0.out.below.cell (p := ⟨g1, o1 + k * 10 + 1, none⟩) hg1).trans (hc 1 _ rfl)
     have d2 : wr.cell? ⟨g1, o1 + k * 10 + 2, none⟩ = some ((.slice a0 n0 c0)) := (R_0.out.below.cell (p := ⟨g1, o1 + k * 10 + 2, none⟩) hg1).trans (hc 2 _ rfl)
     have d3 : wr.cell? ⟨g1, o1 + k * 10 + 3, none⟩ = some ((.slice a1 n1 c1)) := (R_0.out.below.cell (p := ⟨g1, o1 + k * 10 + 3, none⟩) hg1).trans (hc 3 _ rfl)
     have d4 : wr.cell? ⟨g1, o1 + k * 10 + 4, none⟩ = some (.bool ZQ.s) := (R_0.out.below.cell (p := ⟨g1, o1 + k * 10 + 4, none⟩) hg1).trans (hc 4 _ rfl)
     have d5 : wr.cell? ⟨g1, o1 + k * 10 + 5, none⟩ = some ((.slice a2 n2 c2)) := (R_0.out.below.cell (p := ⟨g1, o1 + k * 10 + 5, none⟩) hg1).trans (hc 5 _ rfl)
     have d6 : wr.cell? ⟨g1, o1 + k * 10 + 6, none⟩ = some ((.slice a3 n3 c3)) := (R_0.out.below.cell (p := ⟨g1, o1 + k * 10 + 6, none⟩) hg1).trans (hc 6 _ rfl)
     have d7 : wr.cell? ⟨g1, o1 + k * 10 + 7, none⟩ = some (.bool ZR.s) := (R_0.out.below.cell (p := ⟨g1, o1 + k * 10 + 7, none⟩) hg1).trans (hc 7 _ rfl)
     have d8 : wr.cell? ⟨g1, o1 + k * 10 + 8, none⟩ = some ((.slice a4 n4 c4)) := (R_0.out.below.cell (p := ⟨g1, o1 + k * 10 + 8, none⟩) hg1).trans (hc 8 _ rfl)
     have d9 : wr.cell? ⟨g1, o1 + k * 10 + 9, none⟩ = some ((.slice a5 n5 c5)) := (R_0.out.below.cell (p := ⟨g1, o1 + k * 10 + 9, none⟩) hg1).trans (hc 9 _ rfl)
     clear hz hs hc hr
     have S_4 := Lib.hid (R_0.out.alloc [.int .i64 ZA, .bool ZP.s, (.slice a0 n0 c0), (.slice a1 n1 c1), .bool ZQ.s, (.slice a2 n2 c2), (.slice a3 n3 c3), .bool ZR.s, (.slice a4 n4 c4), (.slice a5 n5 c5)] 63)
     clear R_0
     have hne_sum_p := S_4.out.ne 1 0 rfl rfl (by decide)
     have hne_p_sum := S_4.out.ne 0 1 rfl rfl (by decide)
     have hne_c_p := S_4.out.ne 2 0 rfl rfl (by decide)
     have hne_p_c := S_4.out.ne 0 2 rfl rfl (by decide)
     clear hk_c_0_3 hk_c_1_3 hk_c_2_3 hk_c_3_3 hk_c_4_3 hk_sum_0_3 hk_sum_0_3f hk_sum_1_3 hk_sum_1_3f hk_sum_2_3 hk_sum_2_3f
     have hk_c_0_4 := S_4.out.cell 2 0 rfl rfl
     have hk_c_1_4 := S_4.out.cell 2 1 rfl rfl
     have hk_c_2_4 := S_4.out.cell 2 2 rfl rfl
     have hk_c_3_4 := S_4.out.cell 2 3 rfl rfl
     have hk_c_4_4 := S_4.out.cell 2 4 rfl rfl
     have hk_p_0_4 := S_4.out.cell 0 0 rfl rfl
     have hk_p_1_4 := S_4.out.cell 0 1 rfl rfl
     have hk_p_2_4 := S_4.out.cell 0 2 rfl rfl
     have hk_p_3_4 := S_4.out.cell 0 3 rfl rfl
     have hk_p_4_4 := S_4.out.cell 0 4 rfl rfl
     have hk_p_5_4 := S_4.out.cell 0 5 rfl rfl
     have hk_p_6_4 := S_4.out.cell 0 6 rfl rfl
     have hk_p_7_4 := S_4.out.cell 0 7 rfl rfl
     have hk_p_8_4 := S_4.out.cell 0 8 rfl rfl
     have hk_p_9_4 := S_4.out.cell 0 9 rfl rfl
     go_wp2
     clear d0 d1 d2 d3 d4 d5 d6 d7 d8 d9
     clear hk_c_0_4 hk_c_1_4 hk_c_2_4 hk_c_3_4 hk_c_4_4 hk_p_0_4 hk_p_1_4 hk_p_2_4 hk_p_3_4 hk_p_4_4 hk_p_5_4 hk_p_6_4 hk_p_7_4 hk_p_8_4 hk_p_9_4
     by_cases h1 : 0 ≤ ZA ∧ ZA < 10
     · have HND := Lib.hid (decide_eq_true h1)
       by_cases h2 : ZA = N
       · have HE := Lib.hid (show false = ok by rw [← HOK.out]; exact (okC_no (.inr (.inr (.inr (.inl (okPa_bad HZ.out (by rw [← Bool.not_eq_true, paOk_parts]; show ¬ ((0 ≤ ZA ∧ ZA < 10) ∧ ¬ ZA = N ∧ 0 < ZP.sgn ∧ ZQ.ok = true ∧ ZR.ok = true); exact fun h => h.2.1 h2))))))).symm)
         have h2b : (ZA == N) = true := by simp [h2]
         clear h2
         have mkS_5 : ∀ (w' : World) (cs' : List Chunk), St w w' [(wr.heap.size, [.int .i64 ZA, .bool ZP.s, (.slice a0 n0 c0), (.slice a1 n1 c1), .bool ZQ.s, (.slice a2 n2 c2), (.slice a3 n3 c3), .bool ZR.s, (.slice a4 n4 c4), (.slice a5 n5 c5)]), (w1.heap.size, [.bool S.s, (.slice As ns cs), (.slice Bs ms ds)]), (w.heap.size, [.int .i64 N, .bool T.s, t0, t1, (.slice (some ⟨g1, o1, none⟩) n c)])] cs' → w'.cell? ⟨wr.heap.size, 0, none⟩ = some (.int .i64 ZA) ∧ w'.cell? ⟨wr.heap.size, 1, none⟩ = some (.bool ZP.s) ∧ w'.cell? ⟨wr.heap.size, 2, none⟩ = some ((.slice a0 n0 c0)) ∧ w'.cell? ⟨wr.heap.size, 3, none⟩ = some ((.slice a1 n1 c1)) ∧ w'.cell? ⟨wr.heap.size, 4, none⟩ = some (.bool ZQ.s) ∧ w'.cell? ⟨wr.heap.size, 5, none⟩ = some ((.slice a2 n2 c2)) ∧ w'.cell? ⟨wr.heap.size, 6, none⟩ = some ((.slice a3 n3 c3)) ∧ w'.cell? ⟨wr.heap.size, 7, none⟩ = some (.bool ZR.s) ∧ w'.cell? ⟨wr.heap.size, 8, none⟩ = some ((.slice a4 n4 c4)) ∧ w'.cell? ⟨wr.heap.size, 9, none⟩ = some ((.slice a5 n5 c5)) ∧ w'.cell? ⟨w.heap.size, 0, none⟩ = some (.int .i64 N) ∧ w'.cell? ⟨w.heap.size, 1, none⟩ = some (.bool T.s) ∧ w'.cell? ⟨w.heap.size, 2, none⟩ = some (t0) ∧ w'.cell? ⟨w.heap.size, 3, none⟩ = some (t1) ∧ w'.cell? ⟨w.heap.size, 4, none⟩ = some ((.slice (some ⟨g1, o1, none⟩) n c)) := fun w' cs' h => ⟨h.cell 0 0 rfl rfl, h.cell 0 1 rfl rfl, h.cell 0 2 rfl rfl, h.cell 0 3 rfl rfl, h.cell 0 4 rfl rfl, h.cell 0 5 rfl rfl, h.cell 0 6 rfl rfl, h.cell 0 7 rfl rfl, h.cell 0 8 rfl rfl, h.cell 0 9 rfl rfl, h.cell 2 0 rfl rfl, h.cell 2 1 rfl rfl, h.cell 2 2 rfl rfl, h.cell 2 3 rfl rfl, h.cell 2 4 rfl rfl⟩
         refine wp_region_noPanic ?_
         refine wp_region_held_drew (S := (fun w' => w'.cell? ⟨wr.heap.size, 0, none⟩ = some (.int .i64 ZA) ∧ w'.cell? ⟨wr.heap.size, 1, none⟩ = some (.bool ZP.s) ∧ w'.cell? ⟨wr.heap.size, 2, none⟩ = some ((.slice a0 n0 c0)) ∧ w'.cell? ⟨wr.heap.size, 3, none⟩ = some ((.slice a1 n1 c1)) ∧ w'.cell? ⟨wr.heap.size, 4, none⟩ = some (.bool ZQ.s) ∧ w'.cell? ⟨wr.heap.size, 5, none⟩ = some ((.slice a2 n2 c2)) ∧ w'.cell? ⟨wr.heap.size, 6, none⟩ = some ((.slice a3 n3 c3)) ∧ w'.cell? ⟨wr.heap.size, 7, none⟩ = some (.bool ZR.s) ∧ w'.cell? ⟨wr.heap.size, 8, none⟩ = some ((.slice a4 n4 c4)) ∧ w'.cell? ⟨wr.heap.size, 9, none⟩ = some ((.slice a5 n5 c5)) ∧ w'.cell? ⟨w.heap.size, 0, none⟩ = some (.int .i64 N) ∧ w'.cell? ⟨w.heap.size, 1, none⟩ = some (.bool T.s) ∧ w'.cell? ⟨w.heap.size, 2, none⟩ = some (t0) ∧ w'.cell? ⟨w.heap.size, 3, none⟩ = some (t1) ∧ w'.cell? ⟨w.heap.size, 4, none⟩ = some ((.slice (some ⟨g1, o1, none⟩) n c)))) (by kernel_rfl) ?_ (fun hHeld => ?_)
         · exact mkS_5 _ _ S_4.out.drew
         refine tkH 0 ?_ ⟨some 15, .fieldAddr 63 (.tmp 5) 0, 0, "l08_star.go:8", #[], none⟩ ?_ ?_
         rotate_left
         · intro w9 hSw; (try dsimp only at hSw); go_simp; try with_reducible rfl
         try simp only [pm, s0, sS]
         refine tkH 1 ?_ ⟨some 16, .load 3 (.tmp 15), 3, "l08_star.go:8", #[⟨0, .data⟩], none⟩ ?_ ?_
         rotate_left
         · intro w9 hSw; (try dsimp only at hSw); go_simp; try with_reducible rfl
         try simp only [pm, s0, sS]
         refine wpAnyH_ready (rs := [2]) (by kernel_rfl) (by simp) ?_
         refine AllReadyH.cons (o := ⟨some 17, .call { callee := .value (.func 52), args := #[.tmp 16], argTypes := #[3] }, 4, "l08_star.go:8", #[⟨1, .data⟩], none⟩) rfl (fun K hK => ?_) AllReadyH.nil
         go_simp
         go_at_call 52
         refine (l06Node_any ZA _).mono ?_
         rintro e w9 ⟨rfl, hw⟩
         obtain rfl := hw.symm
         rw [HND.out]
         refine hK.out _ _ (mkS_5 _ _ S_4.out.drew) (fun hHeld2 => ?_)
         clear hK K
         try simp only [pm, s0, sS]
         refine tkH 3 ?_ ⟨some 18, .unOp .not 4 (.tmp 17), 4, "l08_star.go:8", #[⟨2, .data⟩], none⟩ ?_ ?_
         rotate_left
         · intro w9 hSw; (try dsimp only at hSw); go_simp; try with_reducible rfl
         try simp only [pm, s0, sS]
         refine tkH 4 ?_ ⟨some 19, .move (.tmp 18), 4, "l08_star.go:8", #[⟨3, .data⟩, ⟨2, .chain⟩], none⟩ ?_ ?_
         rotate_left
         · intro w9 hSw; (try dsimp only at hSw); go_simp; try with_reducible rfl
         try simp only [pm, s0, sS]
         refine tkH 5 ?_ ⟨some 20, .fieldAddr 63 (.tmp 5) 0, 0, "l08_star.go:8", #[⟨4, .guard⟩], some (4, false)⟩ ?_ ?_
         rotate_left
         · intro w9 hSw; (try dsimp only at hSw); go_simp; try with_reducible rfl
         try simp only [pm, s0, sS]
         refine tkH 6 ?_ ⟨some 21, .load 3 (.tmp 20), 3, "l08_star.go:8", #[⟨5, .data⟩, ⟨4, .guard⟩], some (4, false)⟩ ?_ ?_
         rotate_left
         · intro w9 hSw; (try dsimp only at hSw); go_simp; try with_reducible rfl
         try simp only [pm, s0, sS]
         refine tkH 7 ?_ ⟨some 22, .fieldAddr 60 (.tmp 1) 0, 0, "l08_star.go:8", #[⟨4, .guard⟩], some (4, false)⟩ ?_ ?_
         rotate_left
         · intro w9 hSw; (try dsimp only at hSw); go_simp; try with_reducible rfl
         try simp only [pm, s0, sS]
         refine tkH 8 ?_ ⟨some 23, .load 3 (.tmp 22), 3, "l08_star.go:8", #[⟨7, .data⟩, ⟨4, .guard⟩], some (4, false)⟩ ?_ ?_
         rotate_left
         · intro w9 hSw; (try dsimp only at hSw); go_simp; try with_reducible rfl
         try simp only [pm, s0, sS]
         refine tkH 9 ?_ ⟨some 24, .binOp .eql 3 (.tmp 21) (.tmp 23) 3, 4, "l08_star.go:8", #[⟨6, .data⟩, ⟨8, .data⟩, ⟨4, .guard⟩], some (4, false)⟩ ?_ ?_
         rotate_left
         · intro w9 hSw; (try dsimp only at hSw); go_simp; try with_reducible rfl
         try simp only [pm, s0, sS]
         refine tkH 10 ?_ ⟨some 25, .pick (.tmp 19) (.const (Value.bool true)) (.tmp 24), 4, "l08_star.go:8", #[⟨4, .data⟩, ⟨9, .data⟩], none⟩ ?_ ?_
         rotate_left
         · intro w9 hSw; (try dsimp only at hSw); go_simp; try with_reducible rfl
         try simp only [pm, s0, sS]
         refine tkH 11 ?_ ⟨some 26, .move (.tmp 25), 4, "l08_star.go:8", #[⟨10, .data⟩, ⟨4, .chain⟩], none⟩ ?_ ?_
         rotate_left
         · intro w9 hSw; (try dsimp only at hSw); go_simp; try with_reducible rfl
         try simp only [pm, s0, sS]
         refine tkN 12 ⟨some 27, .move (.tmp 4), 3, "l08_star.go:8", #[⟨11, .guard⟩], some (11, false)⟩ ?_
         try simp only [pm, s0, sS]
         refine tkN 13 ⟨some 28, .binOp .gtr 3 (.tmp 27) (.const (Value.int IntKind.i64 0)) 3, 4, "l08_star.go:8", #[⟨12, .data⟩, ⟨11, .guard⟩], some (11, false)⟩ ?_
         try simp only [pm, s0, sS]
         refine tkN 14 ⟨some 29, .move (.tmp 28), 4, "l08_star.go:8", #[⟨13, .data⟩, ⟨11, .chain⟩, ⟨11, .guard⟩], some (11, false)⟩ ?_
         try simp only [pm, s0, sS]
         refine tkN 15 ⟨some 30, .fieldAddr 60 (.tmp 1) 2, 0, "l08_star.go:8", #[⟨14, .guard⟩], some (14, true)⟩ ?_
         try simp only [pm, s0, sS]
         refine tkN 16 ⟨some 31, .load 58 (.tmp 30), 58, "l08_star.go:8", #[⟨15, .data⟩, ⟨14, .guard⟩], some (14, true)⟩ ?_
         try simp only [pm, s0, sS]
         refine tkN 17 ⟨some 32, .move (.tmp 4), 3, "l08_star.go:8", #[⟨14, .guard⟩], some (14, true)⟩ ?_
         try simp only [pm, s0, sS]
         refine tkN 18 ⟨some 33, .binOp .sub 3 (.tmp 32) (.const (Value.int IntKind.i64 1)) 3, 3, "l08_star.go:8", #[⟨17, .data⟩, ⟨14, .guard⟩], some (14, true)⟩ ?_
         try simp only [pm, s0, sS]
         refine tkN 19 ⟨some 34, .indexAddr 58 (.tmp 31) (.tmp 33), 0, "l08_star.go:8", #[⟨16, .data⟩, ⟨18, .data⟩, ⟨14, .guard⟩], some (14, true)⟩ ?_
         try simp only [pm, s0, sS]
         refine tkN 20 ⟨some 35, .fieldAddr 63 (.tmp 34) 0, 0, "l08_star.go:8", #[⟨19, .data⟩, ⟨14, .guard⟩], some (14, true)⟩ ?_
         try simp only [pm, s0, sS]
         refine tkN 21 ⟨some 36, .load 3 (.tmp 35), 3, "l08_star.go:8", #[⟨20, .data⟩, ⟨14, .guard⟩], some (14, true)⟩ ?_
         try simp only [pm, s0, sS]
         refine tkN 22 ⟨some 37, .fieldAddr 63 (.tmp 5) 0, 0, "l08_star.go:8", #[⟨14, .guard⟩], some (14, true)⟩ ?_
         try simp only [pm, s0, sS]
         refine tkN 23 ⟨some 38, .load 3 (.tmp 37), 3, "l08_star.go:8", #[⟨22, .data⟩, ⟨14, .guard⟩], some (14, true)⟩ ?_
         try simp only [pm, s0, sS]
         refine tkN 24 ⟨some 39, .binOp .geq 3 (.tmp 36) (.tmp 38) 3, 4, "l08_star.go:8", #[⟨21, .data⟩, ⟨23, .data⟩, ⟨14, .guard⟩], some (14, true)⟩ ?_
         try simp only [pm, s0, sS]
         refine tkN 25 ⟨some 40, .pick (.tmp 29) (.tmp 39) (.const (Value.bool false)), 4, "l08_star.go:8", #[⟨14, .data⟩, ⟨24, .data⟩, ⟨11, .guard⟩], some (11, false)⟩ ?_
         try simp only [pm, s0, sS]
         refine tkH 26 ?_ ⟨some 41, .pick (.tmp 26) (.const (Value.bool true)) (.tmp 40), 4, "l08_star.go:8", #[⟨11, .data⟩, ⟨25, .data⟩], none⟩ ?_ ?_
         rotate_left
         · intro w9 hSw; (try dsimp only at hSw); go_simp; try with_reducible rfl
         try simp only [pm, s0, sS]
         refine tkH 27 ?_ ⟨some 42, .move (.tmp 41), 4, "l08_star.go:8", #[⟨26, .data⟩, ⟨14, .chain⟩], none⟩ ?_ ?_
         rotate_left
         · intro w9 hSw; (try dsimp only at hSw); go_simp; try with_reducible rfl
         try simp only [pm, s0, sS]
         refine tkN 28 ⟨some 43, .fieldAddr 63 (.tmp 5) 1, 0, "l08_star.go:8", #[⟨27, .guard⟩], some (27, false)⟩ ?_
         try simp only [pm, s0, sS]
         refine tkN 29 ⟨some 44, .load 37 (.tmp 43), 37, "l08_star.go:8", #[⟨28, .data⟩, ⟨27, .guard⟩], some (27, false)⟩ ?_
         try simp only [pm, s0, sS]
         refine wpAnyH_ready (rs := [30]) (by kernel_rfl) (by simp) ?_
         refine AllReadyH.cons (o := ⟨some 45, .call { callee := .value (.func 53), args := #[.tmp 44], argTypes := #[37] }, 3, "l08_star.go:8", #[⟨29, .data⟩, ⟨27, .chain⟩, ⟨27, .guard⟩], some (27, false)⟩) rfl (fun K hK => ?_) AllReadyH.nil
         go_simp
         refine hK.out _ _ (mkS_5 _ _ S_4.out.drew) (fun hHeld30 => ?_)
         clear hK K
         try simp only [pm, s0, sS]
         refine tkN 31 ⟨some 46, .binOp .leq 3 (.tmp 45) (.const (Value.int IntKind.i64 0)) 3, 4, "l08_star.go:8", #[⟨30, .data⟩, ⟨27, .guard⟩], some (27, false)⟩ ?_
         try simp only [pm, s0, sS]
         refine tkH 32 ?_ ⟨some 47, .pick (.tmp 42) (.const (Value.bool true)) (.tmp 46), 4, "l08_star.go:8", #[⟨27, .data⟩, ⟨31, .data⟩], none⟩ ?_ ?_
         rotate_left
         · intro w9 hSw; (try dsimp only at hSw); go_simp; try with_reducible rfl
         try simp only [pm, s0, sS]
         refine tkH 33 ?_ ⟨some 48, .move (.tmp 47), 4, "l08_star.go:8", #[⟨32, .data⟩, ⟨30, .chain⟩], none⟩ ?_ ?_
         rotate_left
         · intro w9 hSw; (try dsimp only at hSw); go_simp; try with_reducible rfl
         try simp only [pm, s0, sS]
         refine tkN 34 ⟨some 49, .fieldAddr 63 (.tmp 5) 2, 0, "l08_star.go:8", #[⟨33, .guard⟩], some (33, false)⟩ ?_
         try simp only [pm, s0, sS]
         refine tkN 35 ⟨some 50, .load 37 (.tmp 49), 37, "l08_star.go:8", #[⟨34, .data⟩, ⟨33, .guard⟩], some (33, false)⟩ ?_
         try simp only [pm, s0, sS]
         refine wpAnyH_ready (rs := [36]) (by kernel_rfl) (by simp) ?_
         refine AllReadyH.cons (o := ⟨some 51, .call { callee := .value (.func 35), args := #[.tmp 50], argTypes := #[37] }, 4, "l08_star.go:8", #[⟨35, .data⟩, ⟨33, .chain⟩, ⟨33, .guard⟩], some (33, false)⟩) rfl (fun K hK => ?_) AllReadyH.nil
         go_simp
         refine hK.out _ _ (mkS_5 _ _ S_4.out.drew) (fun hHeld36 => ?_)
         clear hK K
         try simp only [pm, s0, sS]
         refine tkN 37 ⟨some 52, .unOp .not 4 (.tmp 51), 4, "l08_star.go:8", #[⟨36, .data⟩, ⟨33, .guard⟩], some (33, false)⟩ ?_
         try simp only [pm, s0, sS]
         refine tkH 38 ?_ ⟨some 53, .pick (.tmp 48) (.const (Value.bool true)) (.tmp 52), 4, "l08_star.go:8", #[⟨33, .data⟩, ⟨37, .data⟩], none⟩ ?_ ?_
         rotate_left
         · intro w9 hSw; (try dsimp only at hSw); go_simp; try with_reducible rfl
         try simp only [pm, s0, sS]
         refine tkH 39 ?_ ⟨some 54, .move (.tmp 53), 4, "l08_star.go:8", #[⟨38, .data⟩, ⟨36, .chain⟩], none⟩ ?_ ?_
         rotate_left
         · intro w9 hSw; (try dsimp only at hSw); go_simp; try with_reducible rfl
         try simp only [pm, s0, sS]
         refine tkN 40 ⟨some 55, .fieldAddr 63 (.tmp 5) 3, 0, "l08_star.go:8", #[⟨39, .guard⟩], some (39, false)⟩ ?_
         try simp only [pm, s0, sS]
         refine tkN 41 ⟨some 56, .load 37 (.tmp 55), 37, "l08_star.go:8", #[⟨40, .data⟩, ⟨39, .guard⟩], some (39, false)⟩ ?_
         try simp only [pm, s0, sS]
         refine wpAnyH_ready (rs := [42]) (by kernel_rfl) (by simp) ?_
         refine AllReadyH.cons (o := ⟨some 57, .call { callee := .value (.func 35), args := #[.tmp 56], argTypes := #[37] }, 4, "l08_star.go:8", #[⟨41, .data⟩, ⟨39, .chain⟩, ⟨39, .guard⟩], some (39, false)⟩) rfl (fun K hK => ?_) AllReadyH.nil
         go_simp
         refine hK.out _ _ (mkS_5 _ _ S_4.out.drew) (fun hHeld42 => ?_)
         clear hK K
         try simp only [pm, s0, sS]
         refine tkN 43 ⟨some 58, .unOp .not 4 (.tmp 57), 4, "l08_star.go:8", #[⟨42, .data⟩, ⟨39, .guard⟩], some (39, false)⟩ ?_
         try simp only [pm, s0, sS]
         refine tkH 44 ?_ ⟨some 59, .pick (.tmp 54) (.const (Value.bool true)) (.tmp 58), 4, "l08_star.go:8", #[⟨39, .data⟩, ⟨43, .data⟩], none⟩ ?_ ?_
         rotate_left
         · intro w9 hSw; (try dsimp only at hSw); go_simp; try with_reducible rfl
         try simp only [pm, s0, sS]
         refine wpAnyH_done (by kernel_rfl) ?_ _
         refine NoPanic.normal ?_
         go_wp2
         go_ret
         exact ⟨ret_bool HE.out, S_4.out.drew.below⟩
       · have h2b : (ZA == N) = false := by simp [h2]
         by_cases h7 : k = 0
         · have HA2 := Lib.hid (show ascPa (dats zs) (k + 1) by subst h7; exact ascPa_le (Nat.le_refl _))
           have h7b : decide ((0 : Int) < (k : Int)) = false := decide_eq_false (by omega)
           have h7c : decide (0 < k) = false := decide_eq_false (by omega)
           clear h7
           by_cases h3 : 0 < r
           · have h3b : ¬ r ≤ 0 := by omega
             by_cases h4 : ZQ.ok = true
             · have HQX := Lib.hid h4
               obtain ⟨rk, hrk⟩ : ∃ z, ZR.ok = z := ⟨_, rfl⟩
               have HRX := Lib.hid hrk
               have HH := Lib.hid (And.intro h1 (And.intro h2 (And.intro h3 h4)))
               clear hrk h1 h2 h3 h4
               have mkS_6 : ∀ (w' : World) (cs' : List Chunk), St w w' [(wr.heap.size, [.int .i64 ZA, .bool ZP.s, (.slice a0 n0 c0), (.slice a1 n1 c1), .bool ZQ.s, (.slice a2 n2 c2), (.slice a3 n3 c3), .bool ZR.s, (.slice a4 n4 c4), (.slice a5 n5 c5)]), (w1.heap.size, [.bool S.s, (.slice As ns cs), (.slice Bs ms ds)]), (w.heap.size, [.int .i64 N, .bool T.s, t0, t1, (.slice (some ⟨g1, o1, none⟩) n c)])] cs' → w'.cell? ⟨wr.heap.size, 0, none⟩ = some (.int .i64 ZA) ∧ w'.cell? ⟨wr.heap.size, 1, none⟩ = some (.bool ZP.s) ∧ w'.cell? ⟨wr.heap.size, 2, none⟩ = some ((.slice a0 n0 c0)) ∧ w'.cell? ⟨wr.heap.size, 3, none⟩ = some ((.slice a1 n1 c1)) ∧ w'.cell? ⟨wr.heap.size, 4, none⟩ = some (.bool ZQ.s) ∧ w'.cell? ⟨wr.heap.size, 5, none⟩ = some ((.slice a2 n2 c2)) ∧ w'.cell? ⟨wr.heap.size, 6, none⟩ = some ((.slice a3 n3 c3)) ∧ w'.cell? ⟨wr.heap.size, 7, none⟩ = some (.bool ZR.s) ∧ w'.cell? ⟨wr.heap.size, 8, none⟩ = some ((.slice a4 n4 c4)) ∧ w'.cell? ⟨wr.heap.size, 9, none⟩ = some ((.slice a5 n5 c5)) ∧ w'.cell? ⟨w.heap.size, 0, none⟩ = some (.int .i64 N) ∧ w'.cell? ⟨w.heap.size, 1, none⟩ = some (.bool T.s) ∧ w'.cell? ⟨w.heap.size, 2, none⟩ = some (t0) ∧ w'.cell? ⟨w.heap.size, 3, none⟩ = some (t1) ∧ w'.cell? ⟨w.heap.size, 4, none⟩ = some ((.slice (some ⟨g1, o1, none⟩) n c)) := fun w' cs' h => ⟨h.cell 0 0 rfl rfl, h.cell 0 1 rfl rfl, h.cell 0 2 rfl rfl, h.cell 0 3 rfl rfl, h.cell 0 4 rfl rfl, h.cell 0 5 rfl rfl, h.cell 0 6 rfl rfl, h.cell 0 7 rfl rfl, h.cell 0 8 rfl rfl, h.cell 0 9 rfl rfl, h.cell 2 0 rfl rfl, h.cell 2 1 rfl rfl, h.cell 2 2 rfl rfl, h.cell 2 3 rfl rfl, h.cell 2 4 rfl rfl⟩
               refine wp_region_noPanic ?_
               refine wp_region_held_drew (S := (fun w' => w'.cell? ⟨wr.heap.size, 0, none⟩ = some (.int .i64 ZA) ∧ w'.cell? ⟨wr.heap.size, 1, none⟩ = some (.bool ZP.s) ∧ w'.cell? ⟨wr.heap.size, 2, none⟩ = some ((.slice a0 n0 c0)) ∧ w'.cell? ⟨wr.heap.size, 3, none⟩ = some ((.slice a1 n1 c1)) ∧ w'.cell? ⟨wr.heap.size, 4, none⟩ = some (.bool ZQ.s) ∧ w'.cell? ⟨wr.heap.size, 5, none⟩ = some ((.slice a2 n2 c2)) ∧ w'.cell? ⟨wr.heap.size, 6, none⟩ = some ((.slice a3 n3 c3)) ∧ w'.cell? ⟨wr.heap.size, 7, none⟩ = some (.bool ZR.s) ∧ w'.cell? ⟨wr.heap.size, 8, none⟩ = some ((.slice a4 n4 c4)) ∧ w'.cell? ⟨wr.heap.size, 9, none⟩ = some ((.slice a5 n5 c5)) ∧ w'.cell? ⟨w.heap.size, 0, none⟩ = some (.int .i64 N) ∧ w'.cell? ⟨w.heap.size, 1, none⟩ = some (.bool T.s) ∧ w'.cell? ⟨w.heap.size, 2, none⟩ = some (t0) ∧ w'.cell? ⟨w.heap.size, 3, none⟩ = some (t1) ∧ w'.cell? ⟨w.heap.size, 4, none⟩ = some ((.slice (some ⟨g1, o1, none⟩) n c)))) (by kernel_rfl) ?_ (fun hHeld => ?_)
               · exact mkS_6 _ _ S_4.out.drew
               refine tkH 0 ?_ ⟨some 15, .fieldAddr 63 (.tmp 5) 0, 0, "l08_star.go:8", #[], none⟩ ?_ ?_
               rotate_left
               · intro w9 hSw; (try dsimp only at hSw); go_simp; try with_reducible rfl
               try simp only [pm, s0, sS]
               refine tkH 1 ?_ ⟨some 16, .load 3 (.tmp 15), 3, "l08_star.go:8", #[⟨0, .data⟩], none⟩ ?_ ?_
               rotate_left
               · intro w9 hSw; (try dsimp only at hSw); go_simp; try with_reducible rfl
               try simp only [pm, s0, sS]
               refine wpAnyH_ready (rs := [2]) (by kernel_rfl) (by simp) ?_
               refine AllReadyH.cons (o := ⟨some 17, .call { callee := .value (.func 52), args := #[.tmp 16], argTypes := #[3] }, 4, "l08_star.go:8", #[⟨1, .data⟩], none⟩) rfl (fun K hK => ?_) AllReadyH.nil
               go_simp
               go_at_call 52
               refine (l06Node_any ZA _).mono ?_
               rintro e w9 ⟨rfl, hw⟩
               obtain rfl := hw.symm
               rw [HND.out]
               refine hK.out _ _ (mkS_6 _ _ S_4.out.drew) (fun hHeld2 => ?_)
               clear hK K
               try simp only [pm, s0, sS]
               refine tkH 3 ?_ ⟨some 18, .unOp .not 4 (.tmp 17), 4, "l08_star.go:8", #[⟨2, .data⟩], none⟩ ?_ ?_
               rotate_left
               · intro w9 hSw; (try dsimp only at hSw); go_simp; try with_reducible rfl
               try simp only [pm, s0, sS]
               refine tkH 4 ?_ ⟨some 19, .move (.tmp 18), 4, "l08_star.go:8", #[⟨3, .data⟩, ⟨2, .chain⟩], none⟩ ?_ ?_
               rotate_left
               · intro w9 hSw; (try dsimp only at hSw); go_simp; try with_reducible rfl
               try simp only [pm, s0, sS]
               refine tkH 5 ?_ ⟨some 20, .fieldAddr 63 (.tmp 5) 0, 0, "l08_star.go:8", #[⟨4, .guard⟩], some (4, false)⟩ ?_ ?_
               rotate_left
               · intro w9 hSw; (try dsimp only at hSw); go_simp; try with_reducible rfl
               try simp only [pm, s0, sS]
               refine tkH 6 ?_ ⟨some 21, .load 3 (.tmp 20), 3, "l08_star.go:8", #[⟨5, .data⟩, ⟨4, .guard⟩], some (4, false)⟩ ?_ ?_
               rotate_left
               · intro w9 hSw; (try dsimp only at hSw); go_simp; try with_reducible rfl
               try simp only [pm, s0, sS]
               refine tkH 7 ?_ ⟨some 22, .fieldAddr 60 (.tmp 1) 0, 0, "l08_star.go:8", #[⟨4, .guard⟩], some (4, false)⟩ ?_ ?_
               rotate_left
               · intro w9 hSw; (try dsimp only at hSw); go_simp; try with_reducible rfl
               try simp only [pm, s0, sS]
               refine tkH 8 ?_ ⟨some 23, .load 3 (.tmp 22), 3, "l08_star.go:8", #[⟨7, .data⟩, ⟨4, .guard⟩], some (4, false)⟩ ?_ ?_
               rotate_left
               · intro w9 hSw; (try dsimp only at hSw); go_simp; try with_reducible rfl
               try simp only [pm, s0, sS]
               refine tkH 9 ?_ ⟨some 24, .binOp .eql 3 (.tmp 21) (.tmp 23) 3, 4, "l08_star.go:8", #[⟨6, .data⟩, ⟨8, .data⟩, ⟨4, .guard⟩], some (4, false)⟩ ?_ ?_
               rotate_left
               · intro w9 hSw; (try dsimp only at hSw); go_simp; try with_reducible rfl
               try simp only [pm, s0, sS]
               refine tkH 10 ?_ ⟨some 25, .pick (.tmp 19) (.const (Value.bool true)) (.tmp 24), 4, "l08_star.go:8", #[⟨4, .data⟩, ⟨9, .data⟩], none⟩ ?_ ?_
               rotate_left
               · intro w9 hSw; (try dsimp only at hSw); go_simp; try with_reducible rfl
               try simp only [pm, s0, sS]
               refine tkH 11 ?_ ⟨some 26, .move (.tmp 25), 4, "l08_star.go:8", #[⟨10, .data⟩, ⟨4, .chain⟩], none⟩ ?_ ?_
               rotate_left
               · intro w9 hSw; (try dsimp only at hSw); go_simp; try with_reducible rfl
               try simp only [pm, s0, sS]
               refine tkH 12 ?_ ⟨some 27, .move (.tmp 4), 3, "l08_star.go:8", #[⟨11, .guard⟩], some (11, false)⟩ ?_ ?_
               rotate_left
               · intro w9 hSw; (try dsimp only at hSw); go_simp; try with_reducible rfl
               try simp only [pm, s0, sS]
               refine tkH 13 ?_ ⟨some 28, .binOp .gtr 3 (.tmp 27) (.const (Value.int IntKind.i64 0)) 3, 4, "l08_star.go:8", #[⟨12, .data⟩, ⟨11, .guard⟩], some (11, false)⟩ ?_ ?_
               rotate_left
               · intro w9 hSw; (try dsimp only at hSw); go_simp; try with_reducible rfl
               try simp only [pm, s0, sS]
               refine tkH 14 ?_ ⟨some 29, .move (.tmp 28), 4, "l08_star.go:8", #[⟨13, .data⟩, ⟨11, .chain⟩, ⟨11, .guard⟩], some (11, false)⟩ ?_ ?_
               rotate_left
               · intro w9 hSw; (try dsimp only at hSw); go_simp; try with_reducible rfl
               try simp only [pm, s0, sS]
               refine tkN 15 ⟨some 30, .fieldAddr 60 (.tmp 1) 2, 0, "l08_star.go:8", #[⟨14, .guard⟩], some (14, true)⟩ ?_
               try simp only [pm, s0, sS]
               refine tkN 16 ⟨some 31, .load 58 (.tmp 30), 58, "l08_star.go:8", #[⟨15, .data⟩, ⟨14, .guard⟩], some (14, true)⟩ ?_
               try simp only [pm, s0, sS]
               refine tkN 17 ⟨some 32, .move (.tmp 4), 3, "l08_star.go:8", #[⟨14, .guard⟩], some (14, true)⟩ ?_
               try simp only [pm, s0, sS]
               refine tkN 18 ⟨some 33, .binOp .sub 3 (.tmp 32) (.const (Value.int IntKind.i64 1)) 3, 3, "l08_star.go:8", #[⟨17, .data⟩, ⟨14, .guard⟩], some (14, true)⟩ ?_
               try simp only [pm, s0, sS]
               refine tkN 19 ⟨some 34, .indexAddr 58 (.tmp 31) (.tmp 33), 0, "l08_star.go:8", #[⟨16, .data⟩, ⟨18, .data⟩, ⟨14, .guard⟩], some (14, true)⟩ ?_
               try simp only [pm, s0, sS]
               refine tkN 20 ⟨some 35, .fieldAddr 63 (.tmp 34) 0, 0, "l08_star.go:8", #[⟨19, .data⟩, ⟨14, .guard⟩], some (14, true)⟩ ?_
               try simp only [pm, s0, sS]
               refine tkN 21 ⟨some 36, .load 3 (.tmp 35), 3, "l08_star.go:8", #[⟨20, .data⟩, ⟨14, .guard⟩], some (14, true)⟩ ?_
               try simp only [pm, s0, sS]
               refine tkN 22 ⟨some 37, .fieldAddr 63 (.tmp 5) 0, 0, "l08_star.go:8", #[⟨14, .guard⟩], some (14, true)⟩ ?_
               try simp only [pm, s0, sS]
               refine tkN 23 ⟨some 38, .load 3 (.tmp 37), 3, "l08_star.go:8", #[⟨22, .data⟩, ⟨14, .guard⟩], some (14, true)⟩ ?_
               try simp only [pm, s0, sS]
               refine tkN 24 ⟨some 39, .binOp .geq 3 (.tmp 36) (.tmp 38) 3, 4, "l08_star.go:8", #[⟨21, .data⟩, ⟨23, .data⟩, ⟨14, .guard⟩], some (14, true)⟩ ?_
               try simp only [pm, s0, sS]
               refine tkH 25 ?_ ⟨some 40, .pick (.tmp 29) (.tmp 39) (.const (Value.bool false)), 4, "l08_star.go:8", #[⟨14, .data⟩, ⟨24, .data⟩, ⟨11, .guard⟩], some (11, false)⟩ ?_ ?_
               rotate_left
               · intro w9 hSw; (try dsimp only at hSw); go_simp; try with_reducible rfl
               try simp only [pm, s0, sS]
               refine tkH 26 ?_ ⟨some 41, .pick (.tmp 26) (.const (Value.bool true)) (.tmp 40), 4, "l08_star.go:8", #[⟨11, .data⟩, ⟨25, .data⟩], none⟩ ?_ ?_
               rotate_left
               · intro w9 hSw; (try dsimp only at hSw); go_simp; try with_reducible rfl
               try simp only [pm, s0, sS]
               refine tkH 27 ?_ ⟨some 42, .move (.tmp 41), 4, "l08_star.go:8", #[⟨26, .data⟩, ⟨14, .chain⟩], none⟩ ?_ ?_
               rotate_left
               · intro w9 hSw; (try dsimp only at hSw); go_simp; try with_reducible rfl
               try simp only [pm, s0, sS]
               refine tkH 28 ?_ ⟨some 43, .fieldAddr 63 (.tmp 5) 1, 0, "l08_star.go:8", #[⟨27, .guard⟩], some (27, false)⟩ ?_ ?_
               rotate_left
               · intro w9 hSw; (try dsimp only at hSw); go_simp; try with_reducible rfl
               try simp only [pm, s0, sS]
               refine tkH 29 ?_ ⟨some 44, .load 37 (.tmp 43), 37, "l08_star.go:8", #[⟨28, .data⟩, ⟨27, .guard⟩], some (27, false)⟩ ?_ ?_
               rotate_left
               · intro w9 hSw; (try dsimp only at hSw); go_simp; try with_reducible rfl
               try simp only [pm, s0, sS]
               refine wpAnyH_ready (rs := [30]) (by kernel_rfl) (by simp) ?_
               refine AllReadyH.cons (o := ⟨some 45, .call { callee := .value (.func 53), args := #[.tmp 44], argTypes := #[37] }, 3, "l08_star.go:8", #[⟨29, .data⟩, ⟨27, .chain⟩, ⟨27, .guard⟩], some (27, false)⟩) rfl (fun K hK => ?_) AllReadyH.nil
               go_simp
               go_at_call 53
               refine (ratSign_s ZP (.slice a0 n0 c0) (.slice a1 n1 c1) _ (HR.out.below S_4.out.drew.below (ZP, .slice a0 n0 c0, .slice a1 n1 c1) (by simp))).mono ?_
               rintro e w5 ⟨rfl, hb⟩
               rw [HRG.out] at ⊢
               have S_6 := Lib.hid (S_4.out.drew.call hb)
               clear S_4 hb
               refine hK.out _ _ (mkS_6 _ _ S_6.out) (fun hHeld30 => ?_)
               clear hK K
               try simp only [pm, s0, sS]
               refine tkH 31 ?_ ⟨some 46, .binOp .leq 3 (.tmp 45) (.const (Value.int IntKind.i64 0)) 3, 4, "l08_star.go:8", #[⟨30, .data⟩, ⟨27, .guard⟩], some (27, false)⟩ ?_ ?_
               rotate_left
               · intro w9 hSw; (try dsimp only at hSw); go_simp; try with_reducible rfl
               try simp only [pm, s0, sS]
               refine tkH 32 ?_ ⟨some 47, .pick (.tmp 42) (.const (Value.bool true)) (.tmp 46), 4, "l08_star.go:8", #[⟨27, .data⟩, ⟨31, .data⟩], none⟩ ?_ ?_
               rotate_left
               · intro w9 hSw; (try dsimp only at hSw); go_simp; try with_reducible rfl
               try simp only [pm, s0, sS]
               refine tkH 33 ?_ ⟨some 48, .move (.tmp 47), 4, "l08_star.go:8", #[⟨32, .data⟩, ⟨30, .chain⟩], none⟩ ?_ ?_
               rotate_left
               · intro w9 hSw; (try dsimp only at hSw); go_simp; try with_reducible rfl
               try simp only [pm, s0, sS]
               refine tkH 34 ?_ ⟨some 49, .fieldAddr 63 (.tmp 5) 2, 0, "l08_star.go:8", #[⟨33, .guard⟩], some (33, false)⟩ ?_ ?_
               rotate_left
               · intro w9 hSw; (try dsimp only at hSw); go_simp; try with_reducible rfl
               try simp only [pm, s0, sS]
               refine tkH 35 ?_ ⟨some 50, .load 37 (.tmp 49), 37, "l08_star.go:8", #[⟨34, .data⟩, ⟨33, .guard⟩], some (33, false)⟩ ?_ ?_
               rotate_left
               · intro w9 hSw; (try dsimp only at hSw); go_simp; try with_reducible rfl
               try simp only [pm, s0, sS]
               refine wpAnyH_ready (rs := [36]) (by kernel_rfl) (by simp) ?_
               refine AllReadyH.cons (o := ⟨some 51, .call { callee := .value (.func 35), args := #[.tmp 50], argTypes := #[37] }, 4, "l08_star.go:8", #[⟨35, .data⟩, ⟨33, .chain⟩, ⟨33, .guard⟩], some (33, false)⟩) rfl (fun K hK => ?_) AllReadyH.nil
               go_simp
               go_at_call 35
               refine (ratOk_s ZQ (.slice a2 n2 c2) (.slice a3 n3 c3) _ (HR.out.below S_6.out.below (ZQ, .slice a2 n2 c2, .slice a3 n3 c3) (by simp))).mono ?_
               rintro e w6 ⟨rfl, hb⟩
               rw [HQX.out] at ⊢
               have S_7 := Lib.hid (S_6.out.call hb)
               clear S_6 hb
               refine hK.out _ _ (mkS_6 _ _ S_7.out) (fun hHeld36 => ?_)
               clear hK K
               try simp only [pm, s0, sS]
               refine tkH 37 ?_ ⟨some 52, .unOp .not 4 (.tmp 51), 4, "l08_star.go:8", #[⟨36, .data⟩, ⟨33, .guard⟩], some (33, false)⟩ ?_ ?_
               rotate_left
               · intro w9 hSw; (try dsimp only at hSw); go_simp; try with_reducible rfl
               try simp only [pm, s0, sS]
               refine tkH 38 ?_ ⟨some 53, .pick (.tmp 48) (.const (Value.bool true)) (.tmp 52), 4, "l08_star.go:8", #[⟨33, .data⟩, ⟨37, .data⟩], none⟩ ?_ ?_
               rotate_left
               · intro w9 hSw; (try dsimp only at hSw); go_simp; try with_reducible rfl
               try simp only [pm, s0, sS]
               refine tkH 39 ?_ ⟨some 54, .move (.tmp 53), 4, "l08_star.go:8", #[⟨38, .data⟩, ⟨36, .chain⟩], none⟩ ?_ ?_
               rotate_left
               · intro w9 hSw; (try dsimp only at hSw); go_simp; try with_reducible rfl
               try simp only [pm, s0, sS]
               refine tkH 40 ?_ ⟨some 55, .fieldAddr 63 (.tmp 5) 3, 0, "l08_star.go:8", #[⟨39, .guard⟩], some (39, false)⟩ ?_ ?_
               rotate_left
               · intro w9 hSw; (try dsimp only at hSw); go_simp; try with_reducible rfl
               try simp only [pm, s0, sS]
               refine tkH 41 ?_ ⟨some 56, .load 37 (.tmp 55), 37, "l08_star.go:8", #[⟨40, .data⟩, ⟨39, .guard⟩], some (39, false)⟩ ?_ ?_
               rotate_left
               · intro w9 hSw; (try dsimp only at hSw); go_simp; try with_reducible rfl
               try simp only [pm, s0, sS]
               refine wpAnyH_ready (rs := [42]) (by kernel_rfl) (by simp) ?_
               refine AllReadyH.cons (o := ⟨some 57, .call { callee := .value (.func 35), args := #[.tmp 56], argTypes := #[37] }, 4, "l08_star.go:8", #[⟨41, .data⟩, ⟨39, .chain⟩, ⟨39, .guard⟩], some (39, false)⟩) rfl (fun K hK => ?_) AllReadyH.nil
               go_simp
               go_at_call 35
               refine (ratOk_s ZR (.slice a4 n4 c4) (.slice a5 n5 c5) _ (HR.out.below S_7.out.below (ZR, .slice a4 n4 c4, .slice a5 n5 c5) (by simp))).mono ?_
               rintro e w7 ⟨rfl, hb⟩
               rw [HRX.out] at ⊢
               have S_8 := Lib.hid (S_7.out.call hb)
               clear S_7 hb
               refine hK.out _ _ (mkS_6 _ _ S_8.out) (fun hHeld42 => ?_)
               clear hK K
               try simp only [pm, s0, sS]
               refine tkH 43 ?_ ⟨some 58, .unOp .not 4 (.tmp 57), 4, "l08_star.go:8", #[⟨42, .data⟩, ⟨39, .guard⟩], some (39, false)⟩ ?_ ?_
               rotate_left
               · intro w9 hSw; (try dsimp only at hSw); go_simp; try with_reducible rfl
               try simp only [pm, s0, sS]
               refine tkH 44 ?_ ⟨some 59, .pick (.tmp 54) (.const (Value.bool true)) (.tmp 58), 4, "l08_star.go:8", #[⟨39, .data⟩, ⟨43, .data⟩], none⟩ ?_ ?_
               rotate_left
               · intro w9 hSw; (try dsimp only at hSw); go_simp; try with_reducible rfl
               try simp only [pm, s0, sS]
               refine wpAnyH_done (by kernel_rfl) ?_ _
               refine NoPanic.normal ?_
               cases rk with
               | false =>
                 have HE := Lib.hid (show false = ok by rw [← HOK.out]; exact (okC_no (.inr (.inr (.inr (.inl (okPa_bad HZ.out (by rw [← Bool.not_eq_true, paOk_parts]; show ¬ ((0 ≤ ZA ∧ ZA < 10) ∧ ¬ ZA = N ∧ 0 < ZP.sgn ∧ ZQ.ok = true ∧ ZR.ok = true); exact fun h => by have h5 := HRX.out; rw [h.2.2.2.2] at h5; exact absurd h5 (by decide)))))))).symm)
                 go_wp2
                 go_ret
                 exact ⟨ret_bool HE.out, S_8.out.below⟩
               | true =>
                 have HP := Lib.hid (show paOk N (Rc.dat ⟨[ZA], [(ZP, .slice a0 n0 c0, .slice a1 n1 c1), (ZQ, .slice a2 n2 c2, .slice a3 n3 c3), (ZR, .slice a4 n4 c4, .slice a5 n5 c5)]⟩) = true from paOk_parts.mpr (show (0 ≤ ZA ∧ ZA < 10) ∧ ¬ ZA = N ∧ 0 < ZP.sgn ∧ ZQ.ok = true ∧ ZR.ok = true from ⟨HH.out.1, HH.out.2.1, HRG.out ▸ HH.out.2.2.1, HH.out.2.2.2, HRX.out⟩))
                 have hk_c_0_8 := S_8.out.cell 2 0 rfl rfl
                 have hk_c_1_8 := S_8.out.cell 2 1 rfl rfl
                 have hk_c_2_8 := S_8.out.cell 2 2 rfl rfl
                 have hk_c_3_8 := S_8.out.cell 2 3 rfl rfl
                 have hk_c_4_8 := S_8.out.cell 2 4 rfl rfl
                 have hk_sum_0_8 := S_8.out.cell 1 0 rfl rfl
                 have hk_sum_0_8f := S_8.out.froz 1 0 rfl rfl
                 have hk_sum_1_8 := S_8.out.cell 1 1 rfl rfl
                 have hk_sum_1_8f := S_8.out.froz 1 1 rfl rfl
                 have hk_sum_2_8 := S_8.out.cell 1 2 rfl rfl
                 have hk_sum_2_8f := S_8.out.froz 1 2 rfl rfl
                 have hk_p_0_8 := S_8.out.cell 0 0 rfl rfl
                 have hk_p_1_8 := S_8.out.cell 0 1 rfl rfl
                 have hk_p_2_8 := S_8.out.cell 0 2 rfl rfl
                 have hk_p_3_8 := S_8.out.cell 0 3 rfl rfl
                 have hk_p_4_8 := S_8.out.cell 0 4 rfl rfl
                 have hk_p_5_8 := S_8.out.cell 0 5 rfl rfl
                 have hk_p_6_8 := S_8.out.cell 0 6 rfl rfl
                 have hk_p_7_8 := S_8.out.cell 0 7 rfl rfl
                 have hk_p_8_8 := S_8.out.cell 0 8 rfl rfl
                 have hk_p_9_8 := S_8.out.cell 0 9 rfl rfl
                 go_wp2_with fail
                 refine (ratAdd_s S ZP (.slice As ns cs) (.slice Bs ms ds) (.slice a0 n0 c0) (.slice a1 n1 c1) _ (S_8.out.fr 0 0 rfl rfl rfl) (HR.out.below S_8.out.below (ZP, .slice a0 n0 c0, .slice a1 n1 c1) (by simp))).mono ?_
                 rintro e w8 ⟨vq, uq, rfl, ho, hb⟩
                 obtain ⟨Aq, nq, cq, rfl⟩ := (ho.at_ 0 rfl).shape3
                 obtain ⟨Bq, mq, dq, rfl⟩ := (ho.at_ 1 rfl).shape3
                 have S_9 := Lib.hid (S_8.out.rows ho hb)
                 clear S_8
                 clear ho hb
                 clear hk_c_0_8 hk_c_1_8 hk_c_2_8 hk_c_3_8 hk_c_4_8 hk_sum_0_8 hk_sum_0_8f hk_sum_1_8 hk_sum_1_8f hk_sum_2_8 hk_sum_2_8f hk_p_0_8 hk_p_1_8 hk_p_2_8 hk_p_3_8 hk_p_4_8 hk_p_5_8 hk_p_6_8 hk_p_7_8 hk_p_8_8 hk_p_9_8
                 have hk_c_0_9 := S_9.out.cell 2 0 rfl rfl
                 have hk_c_1_9 := S_9.out.cell 2 1 rfl rfl
                 have hk_c_2_9 := S_9.out.cell 2 2 rfl rfl
                 have hk_c_3_9 := S_9.out.cell 2 3 rfl rfl
                 have hk_c_4_9 := S_9.out.cell 2 4 rfl rfl
                 have hk_sum_0_9 := S_9.out.cell 1 0 rfl rfl
                 have hk_sum_0_9f := S_9.out.froz 1 0 rfl rfl
                 have hk_sum_1_9 := S_9.out.cell 1 1 rfl rfl
                 have hk_sum_1_9f := S_9.out.froz 1 1 rfl rfl
                 have hk_sum_2_9 := S_9.out.cell 1 2 rfl rfl
                 have hk_sum_2_9f := S_9.out.froz 1 2 rfl rfl
                 go_wp2
                 have SX := Lib.hid (S_9.out.setAll 1 [.bool (S.add ZP).s, (.slice Aq nq cq), (.slice Bq mq dq)] rfl rfl)
                 exact ⟨⟨k + 1, S.add ZP, _, _, by omega, by first | rfl | go_num, okPa_step HV.out HZ.out HP.out, HA2.out, by rw [paSum_step HZ.out, HS.out]; rfl, SX.out.sub (by simp) (List.Sublist.cons_cons _ (List.nil_sublist _))⟩, by simp [intOf]; omega⟩
             · rw [Bool.not_eq_true] at h4
               have HQX := Lib.hid h4
               have HE := Lib.hid (show false = ok by rw [← HOK.out]; exact (okC_no (.inr (.inr (.inr (.inl (okPa_bad HZ.out (by rw [← Bool.not_eq_true, paOk_parts]; show ¬ ((0 ≤ ZA ∧ ZA < 10) ∧ ¬ ZA = N ∧ 0 < ZP.sgn ∧ ZQ.ok = true ∧ ZR.ok = true); exact fun h => by rw [h.2.2.2.1] at h4; exact absurd h4 (by decide)))))))).symm)
               have mkS_7 : ∀ (w' : World) (cs' : List Chunk), St w w' [(wr.heap.size, [.int .i64 ZA, .bool ZP.s, (.slice a0 n0 c0), (.slice a1 n1 c1), .bool ZQ.s, (.slice a2 n2 c2), (.slice a3 n3 c3), .bool ZR.s, (.slice a4 n4 c4), (.slice a5 n5 c5)]), (w1.heap.size, [.bool S.s, (.slice As ns cs), (.slice Bs ms ds)]), (w.heap.size, [.int .i64 N, .bool T.s, t0, t1, (.slice (some ⟨g1, o1, none⟩) n c)])] cs' → w'.cell? ⟨wr.heap.size, 0, none⟩ = some (.int .i64 ZA) ∧ w'.cell? ⟨wr.heap.size, 1, none⟩ = some (.bool ZP.s) ∧ w'.cell? ⟨wr.heap.size, 2, none⟩ = some ((.slice a0 n0 c0)) ∧ w'.cell? ⟨wr.heap.size, 3, none⟩ = some ((.slice a1 n1 c1)) ∧ w'.cell? ⟨wr.heap.size, 4, none⟩ = some (.bool ZQ.s) ∧ w'.cell? ⟨wr.heap.size, 5, none⟩ = some ((.slice a2 n2 c2)) ∧ w'.cell? ⟨wr.heap.size, 6, none⟩ = some ((.slice a3 n3 c3)) ∧ w'.cell? ⟨wr.heap.size, 7, none⟩ = some (.bool ZR.s) ∧ w'.cell? ⟨wr.heap.size, 8, none⟩ = some ((.slice a4 n4 c4)) ∧ w'.cell? ⟨wr.heap.size, 9, none⟩ = some ((.slice a5 n5 c5)) ∧ w'.cell? ⟨w.heap.size, 0, none⟩ = some (.int .i64 N) ∧ w'.cell? ⟨w.heap.size, 1, none⟩ = some (.bool T.s) ∧ w'.cell? ⟨w.heap.size, 2, none⟩ = some (t0) ∧ w'.cell? ⟨w.heap.size, 3, none⟩ = some (t1) ∧ w'.cell? ⟨w.heap.size, 4, none⟩ = some ((.slice (some ⟨g1, o1, none⟩) n c)) := fun w' cs' h => ⟨h.cell 0 0 rfl rfl, h.cell 0 1 rfl rfl, h.cell 0 2 rfl rfl, h.cell 0 3 rfl rfl, h.cell 0 4 rfl rfl, h.cell 0 5 rfl rfl, h.cell 0 6 rfl rfl, h.cell 0 7 rfl rfl, h.cell 0 8 rfl rfl, h.cell 0 9 rfl rfl, h.cell 2 0 rfl rfl, h.cell 2 1 rfl rfl, h.cell 2 2 rfl rfl, h.cell 2 3 rfl rfl, h.cell 2 4 rfl rfl⟩
               refine wp_region_noPanic ?_
               refine wp_region_held_drew (S := (fun w' => w'.cell? ⟨wr.heap.size, 0, none⟩ = some (.int .i64 ZA) ∧ w'.cell? ⟨wr.heap.size, 1, none⟩ = some (.bool ZP.s) ∧ w'.cell? ⟨wr.heap.size, 2, none⟩ = some ((.slice a0 n0 c0)) ∧ w'.cell? ⟨wr.heap.size, 3, none⟩ = some ((.slice a1 n1 c1)) ∧ w'.cell? ⟨wr.heap.size, 4, none⟩ = some (.bool ZQ.s) ∧ w'.cell? ⟨wr.heap.size, 5, none⟩ = some ((.slice a2 n2 c2)) ∧ w'.cell? ⟨wr.heap.size, 6, none⟩ = some ((.slice a3 n3 c3)) ∧ w'.cell? ⟨wr.heap.size, 7, none⟩ = some (.bool ZR.s) ∧ w'.cell? ⟨wr.heap.size, 8, none⟩ = some ((.slice a4 n4 c4)) ∧ w'.cell? ⟨wr.heap.size, 9, none⟩ = some ((.slice a5 n5 c5)) ∧ w'.cell? ⟨w.heap.size, 0, none⟩ = some (.int .i64 N) ∧ w'.cell? ⟨w.heap.size, 1, none⟩ = some (.bool T.s) ∧ w'.cell? ⟨w.heap.size, 2, none⟩ = some (t0) ∧ w'.cell? ⟨w.heap.size, 3, none⟩ = some (t1) ∧ w'.cell? ⟨w.heap.size, 4, none⟩ = some ((.slice (some ⟨g1, o1, none⟩) n c)))) (by kernel_rfl) ?_ (fun hHeld => ?_)
               · exact mkS_7 _ _ S_4.out.drew
               refine tkH 0 ?_ ⟨some 15, .fieldAddr 63 (.tmp 5) 0, 0, "l08_star.go:8", #[], none⟩ ?_ ?_
               rotate_left
               · intro w9 hSw; (try dsimp only at hSw); go_simp; try with_reducible rfl
               try simp only [pm, s0, sS]
               refine tkH 1 ?_ ⟨some 16, .load 3 (.tmp 15), 3, "l08_star.go:8", #[⟨0, .data⟩], none⟩ ?_ ?_
               rotate_left
               · intro w9 hSw; (try dsimp only at hSw); go_simp; try with_reducible rfl
               try simp only [pm, s0, sS]
               refine wpAnyH_ready (rs := [2]) (by kernel_rfl) (by simp) ?_
               refine AllReadyH.cons (o := ⟨some 17, .call { callee := .value (.func 52), args := #[.tmp 16], argTypes := #[3] }, 4, "l08_star.go:8", #[⟨1, .data⟩], none⟩) rfl (fun K hK => ?_) AllReadyH.nil
               go_simp
               go_at_call 52
               refine (l06Node_any ZA _).mono ?_
               rintro e w9 ⟨rfl, hw⟩
               obtain rfl := hw.symm
               rw [HND.out]
               refine hK.out _ _ (mkS_7 _ _ S_4.out.drew) (fun hHeld2 => ?_)
               clear hK K
               try simp only [pm, s0, sS]
               refine tkH 3 ?_ ⟨some 18, .unOp .not 4 (.tmp 17), 4, "l08_star.go:8", #[⟨2, .data⟩], none⟩ ?_ ?_
               rotate_left
               · intro w9 hSw; (try dsimp only at hSw); go_simp; try with_reducible rfl
               try simp only [pm, s0, sS]
               refine tkH 4 ?_ ⟨some 19, .move (.tmp 18), 4, "l08_star.go:8", #[⟨3, .data⟩, ⟨2, .chain⟩], none⟩ ?_ ?_
               rotate_left
               · intro w9 hSw; (try dsimp only at hSw); go_simp; try with_reducible rfl
               try simp only [pm, s0, sS]
               refine tkH 5 ?_ ⟨some 20, .fieldAddr 63 (.tmp 5) 0, 0, "l08_star.go:8", #[⟨4, .guard⟩], some (4, false)⟩ ?_ ?_
               rotate_left
               · intro w9 hSw; (try dsimp only at hSw); go_simp; try with_reducible rfl
               try simp only [pm, s0, sS]
               refine tkH 6 ?_ ⟨some 21, .load 3 (.tmp 20), 3, "l08_star.go:8", #[⟨5, .data⟩, ⟨4, .guard⟩], some (4, false)⟩ ?_ ?_
               rotate_left
               · intro w9 hSw; (try dsimp only at hSw); go_simp; try with_reducible rfl
               try simp only [pm, s0, sS]
               refine tkH 7 ?_ ⟨some 22, .fieldAddr 60 (.tmp 1) 0, 0, "l08_star.go:8", #[⟨4, .guard⟩], some (4, false)⟩ ?_ ?_
               rotate_left
               · intro w9 hSw; (try dsimp only at hSw); go_simp; try with_reducible rfl
               try simp only [pm, s0, sS]
               refine tkH 8 ?_ ⟨some 23, .load 3 (.tmp 22), 3, "l08_star.go:8", #[⟨7, .data⟩, ⟨4, .guard⟩], some (4, false)⟩ ?_ ?_
               rotate_left
               · intro w9 hSw; (try dsimp only at hSw); go_simp; try with_reducible rfl
               try simp only [pm, s0, sS]
               refine tkH 9 ?_ ⟨some 24, .binOp .eql 3 (.tmp 21) (.tmp 23) 3, 4, "l08_star.go:8", #[⟨6, .data⟩, ⟨8, .data⟩, ⟨4, .guard⟩], some (4, false)⟩ ?_ ?_
               rotate_left
               · intro w9 hSw; (try dsimp only at hSw); go_simp; try with_reducible rfl
               try simp only [pm, s0, sS]
               refine tkH 10 ?_ ⟨some 25, .pick (.tmp 19) (.const (Value.bool true)) (.tmp 24), 4, "l08_star.go:8", #[⟨4, .data⟩, ⟨9, .data⟩], none⟩ ?_ ?_
               rotate_left
               · intro w9 hSw; (try dsimp only at hSw); go_simp; try with_reducible rfl
               try simp only [pm, s0, sS]
               refine tkH 11 ?_ ⟨some 26, .move (.tmp 25), 4, "l08_star.go:8", #[⟨10, .data⟩, ⟨4, .chain⟩], none⟩ ?_ ?_
               rotate_left
               · intro w9 hSw; (try dsimp only at hSw); go_simp; try with_reducible rfl
               try simp only [pm, s0, sS]
               refine tkH 12 ?_ ⟨some 27, .move (.tmp 4), 3, "l08_star.go:8", #[⟨11, .guard⟩], some (11, false)⟩ ?_ ?_
               rotate_left
               · intro w9 hSw; (try dsimp only at hSw); go_simp; try with_reducible rfl
               try simp only [pm, s0, sS]
               refine tkH 13 ?_ ⟨some 28, .binOp .gtr 3 (.tmp 27) (.const (Value.int IntKind.i64 0)) 3, 4, "l08_star.go:8", #[⟨12, .data⟩, ⟨11, .guard⟩], some (11, false)⟩ ?_ ?_
               rotate_left
               · intro w9 hSw; (try dsimp only at hSw); go_simp; try with_reducible rfl
               try simp only [pm, s0, sS]
               refine tkH 14 ?_ ⟨some 29, .move (.tmp 28), 4, "l08_star.go:8", #[⟨13, .data⟩, ⟨11, .chain⟩, ⟨11, .guard⟩], some (11, false)⟩ ?_ ?_
               rotate_left
               · intro w9 hSw; (try dsimp only at hSw); go_simp; try with_reducible rfl
               try simp only [pm, s0, sS]
               refine tkN 15 ⟨some 30, .fieldAddr 60 (.tmp 1) 2, 0, "l08_star.go:8", #[⟨14, .guard⟩], some (14, true)⟩ ?_
               try simp only [pm, s0, sS]
               refine tkN 16 ⟨some 31, .load 58 (.tmp 30), 58, "l08_star.go:8", #[⟨15, .data⟩, ⟨14, .guard⟩], some (14, true)⟩ ?_
               try simp only [pm, s0, sS]
               refine tkN 17 ⟨some 32, .move (.tmp 4), 3, "l08_star.go:8", #[⟨14, .guard⟩], some (14, true)⟩ ?_
               try simp only [pm, s0, sS]
               refine tkN 18 ⟨some 33, .binOp .sub 3 (.tmp 32) (.const (Value.int IntKind.i64 1)) 3, 3, "l08_star.go:8", #[⟨17, .data⟩, ⟨14, .guard⟩], some (14, true)⟩ ?_
               try simp only [pm, s0, sS]
               refine tkN 19 ⟨some 34, .indexAddr 58 (.tmp 31) (.tmp 33), 0, "l08_star.go:8", #[⟨16, .data⟩, ⟨18, .data⟩, ⟨14, .guard⟩], some (14, true)⟩ ?_
               try simp only [pm, s0, sS]
               refine tkN 20 ⟨some 35, .fieldAddr 63 (.tmp 34) 0, 0, "l08_star.go:8", #[⟨19, .data⟩, ⟨14, .guard⟩], some (14, true)⟩ ?_
               try simp only [pm, s0, sS]
               refine tkN 21 ⟨some 36, .load 3 (.tmp 35), 3, "l08_star.go:8", #[⟨20, .data⟩, ⟨14, .guard⟩], some (14, true)⟩ ?_
               try simp only [pm, s0, sS]
               refine tkN 22 ⟨some 37, .fieldAddr 63 (.tmp 5) 0, 0, "l08_star.go:8", #[⟨14, .guard⟩], some (14, true)⟩ ?_
               try simp only [pm, s0, sS]
               refine tkN 23 ⟨some 38, .load 3 (.tmp 37), 3, "l08_star.go:8", #[⟨22, .data⟩, ⟨14, .guard⟩], some (14, true)⟩ ?_
               try simp only [pm, s0, sS]
               refine tkN 24 ⟨some 39, .binOp .geq 3 (.tmp 36) (.tmp 38) 3, 4, "l08_star.go:8", #[⟨21, .data⟩, ⟨23, .data⟩, ⟨14, .guard⟩], some (14, true)⟩ ?_
               try simp only [pm, s0, sS]
               refine tkH 25 ?_ ⟨some 40, .pick (.tmp 29) (.tmp 39) (.const (Value.bool false)), 4, "l08_star.go:8", #[⟨14, .data⟩, ⟨24, .data⟩, ⟨11, .guard⟩], some (11, false)⟩ ?_ ?_
               rotate_left
               · intro w9 hSw; (try dsimp only at hSw); go_simp; try with_reducible rfl
               try simp only [pm, s0, sS]
               refine tkH 26 ?_ ⟨some 41, .pick (.tmp 26) (.const (Value.bool true)) (.tmp 40), 4, "l08_star.go:8", #[⟨11, .data⟩, ⟨25, .data⟩], none⟩ ?_ ?_
               rotate_left
               · intro w9 hSw; (try dsimp only at hSw); go_simp; try with_reducible rfl
               try simp only [pm, s0, sS]
               refine tkH 27 ?_ ⟨some 42, .move (.tmp 41), 4, "l08_star.go:8", #[⟨26, .data⟩, ⟨14, .chain⟩], none⟩ ?_ ?_
               rotate_left
               · intro w9 hSw; (try dsimp only at hSw); go_simp; try with_reducible rfl
               try simp only [pm, s0, sS]
               refine tkH 28 ?_ ⟨some 43, .fieldAddr 63 (.tmp 5) 1, 0, "l08_star.go:8", #[⟨27, .guard⟩], some (27, false)⟩ ?_ ?_
               rotate_left
               · intro w9 hSw; (try dsimp only at hSw); go_simp; try with_reducible rfl
               try simp only [pm, s0, sS]
               refine tkH 29 ?_ ⟨some 44, .load 37 (.tmp 43), 37, "l08_star.go:8", #[⟨28, .data⟩, ⟨27, .guard⟩], some (27, false)⟩ ?_ ?_
               rotate_left
               · intro w9 hSw; (try dsimp only at hSw); go_simp; try with_reducible rfl
               try simp only [pm, s0, sS]
               refine wpAnyH_ready (rs := [30]) (by kernel_rfl) (by simp) ?_
               refine AllReadyH.cons (o := ⟨some 45, .call { callee := .value (.func 53), args := #[.tmp 44], argTypes := #[37] }, 3, "l08_star.go:8", #[⟨29, .data⟩, ⟨27, .chain⟩, ⟨27, .guard⟩], some (27, false)⟩) rfl (fun K hK => ?_) AllReadyH.nil
               go_simp
               go_at_call 53
               refine (ratSign_s ZP (.slice a0 n0 c0) (.slice a1 n1 c1) _ (HR.out.below S_4.out.drew.below (ZP, .slice a0 n0 c0, .slice a1 n1 c1) (by simp))).mono ?_
               rintro e w5 ⟨rfl, hb⟩
               rw [HRG.out] at ⊢
               have S_7 := Lib.hid (S_4.out.drew.call hb)
               clear S_4 hb
               refine hK.out _ _ (mkS_7 _ _ S_7.out) (fun hHeld30 => ?_)
               clear hK K
               try simp only [pm, s0, sS]
               refine tkH 31 ?_ ⟨some 46, .binOp .leq 3 (.tmp 45) (.const (Value.int IntKind.i64 0)) 3, 4, "l08_star.go:8", #[⟨30, .data⟩, ⟨27, .guard⟩], some (27, false)⟩ ?_ ?_
               rotate_left
               · intro w9 hSw; (try dsimp only at hSw); go_simp; try with_reducible rfl
               try simp only [pm, s0, sS]
               refine tkH 32 ?_ ⟨some 47, .pick (.tmp 42) (.const (Value.bool true)) (.tmp 46), 4, "l08_star.go:8", #[⟨27, .data⟩, ⟨31, .data⟩], none⟩ ?_ ?_
               rotate_left
               · intro w9 hSw; (try dsimp only at hSw); go_simp; try with_reducible rfl
               try simp only [pm, s0, sS]
               refine tkH 33 ?_ ⟨some 48, .move (.tmp 47), 4, "l08_star.go:8", #[⟨32, .data⟩, ⟨30, .chain⟩], none⟩ ?_ ?_
               rotate_left
               · intro w9 hSw; (try dsimp only at hSw); go_simp; try with_reducible rfl
               try simp only [pm, s0, sS]
               refine tkH 34 ?_ ⟨some 49, .fieldAddr 63 (.tmp 5) 2, 0, "l08_star.go:8", #[⟨33, .guard⟩], some (33, false)⟩ ?_ ?_
               rotate_left
               · intro w9 hSw; (try dsimp only at hSw); go_simp; try with_reducible rfl
               try simp only [pm, s0, sS]
               refine tkH 35 ?_ ⟨some 50, .load 37 (.tmp 49), 37, "l08_star.go:8", #[⟨34, .data⟩, ⟨33, .guard⟩], some (33, false)⟩ ?_ ?_
               rotate_left
               · intro w9 hSw; (try dsimp only at hSw); go_simp; try with_reducible rfl
               try simp only [pm, s0, sS]
               refine wpAnyH_ready (rs := [36]) (by kernel_rfl) (by simp) ?_
               refine AllReadyH.cons (o := ⟨some 51, .call { callee := .value (.func 35), args := #[.tmp 50], argTypes := #[37] }, 4, "l08_star.go:8", #[⟨35, .data⟩, ⟨33, .chain⟩, ⟨33, .guard⟩], some (33, false)⟩) rfl (fun K hK => ?_) AllReadyH.nil
               go_simp
               go_at_call 35
               refine (ratOk_s ZQ (.slice a2 n2 c2) (.slice a3 n3 c3) _ (HR.out.below S_7.out.below (ZQ, .slice a2 n2 c2, .slice a3 n3 c3) (by simp))).mono ?_
               rintro e w6 ⟨rfl, hb⟩
               rw [HQX.out] at ⊢
               have S_8 := Lib.hid (S_7.out.call hb)
               clear S_7 hb
               refine hK.out _ _ (mkS_7 _ _ S_8.out) (fun hHeld36 => ?_)
               clear hK K
               try simp only [pm, s0, sS]
               refine tkH 37 ?_ ⟨some 52, .unOp .not 4 (.tmp 51), 4, "l08_star.go:8", #[⟨36, .data⟩, ⟨33, .guard⟩], some (33, false)⟩ ?_ ?_
               rotate_left
               · intro w9 hSw; (try dsimp only at hSw); go_simp; try with_reducible rfl
               try simp only [pm, s0, sS]
               refine tkH 38 ?_ ⟨some 53, .pick (.tmp 48) (.const (Value.bool true)) (.tmp 52), 4, "l08_star.go:8", #[⟨33, .data⟩, ⟨37, .data⟩], none⟩ ?_ ?_
               rotate_left
               · intro w9 hSw; (try dsimp only at hSw); go_simp; try with_reducible rfl
               try simp only [pm, s0, sS]
               refine tkH 39 ?_ ⟨some 54, .move (.tmp 53), 4, "l08_star.go:8", #[⟨38, .data⟩, ⟨36, .chain⟩], none⟩ ?_ ?_
               rotate_left
               · intro w9 hSw; (try dsimp only at hSw); go_simp; try with_reducible rfl
               try simp only [pm, s0, sS]
               refine tkN 40 ⟨some 55, .fieldAddr 63 (.tmp 5) 3, 0, "l08_star.go:8", #[⟨39, .guard⟩], some (39, false)⟩ ?_
               try simp only [pm, s0, sS]
               refine tkN 41 ⟨some 56, .load 37 (.tmp 55), 37, "l08_star.go:8", #[⟨40, .data⟩, ⟨39, .guard⟩], some (39, false)⟩ ?_
               try simp only [pm, s0, sS]
               refine wpAnyH_ready (rs := [42]) (by kernel_rfl) (by simp) ?_
               refine AllReadyH.cons (o := ⟨some 57, .call { callee := .value (.func 35), args := #[.tmp 56], argTypes := #[37] }, 4, "l08_star.go:8", #[⟨41, .data⟩, ⟨39, .chain⟩, ⟨39, .guard⟩], some (39, false)⟩) rfl (fun K hK => ?_) AllReadyH.nil
               go_simp
               refine hK.out _ _ (mkS_7 _ _ S_8.out) (fun hHeld42 => ?_)
               clear hK K
               try simp only [pm, s0, sS]
               refine tkN 43 ⟨some 58, .unOp .not 4 (.tmp 57), 4, "l08_star.go:8", #[⟨42, .data⟩, ⟨39, .guard⟩], some (39, false)⟩ ?_
               try simp only [pm, s0, sS]
               refine tkH 44 ?_ ⟨some 59, .pick (.tmp 54) (.const (Value.bool true)) (.tmp 58), 4, "l08_star.go:8", #[⟨39, .data⟩, ⟨43, .data⟩], none⟩ ?_ ?_
               rotate_left
               · intro w9 hSw; (try dsimp only at hSw); go_simp; try with_reducible rfl
               try simp only [pm, s0, sS]
               refine wpAnyH_done (by kernel_rfl) ?_ _
               refine NoPanic.normal ?_
               go_wp2
               go_ret
               exact ⟨ret_bool HE.out, S_8.out.below⟩
           · have HE := Lib.hid (show false = ok by rw [← HOK.out]; exact (okC_no (.inr (.inr (.inr (.inl (okPa_bad HZ.out (by rw [← Bool.not_eq_true, paOk_parts]; show ¬ ((0 ≤ ZA ∧ ZA < 10) ∧ ¬ ZA = N ∧ 0 < ZP.sgn ∧ ZQ.ok = true ∧ ZR.ok = true); exact fun h => h3 (HRG.out ▸ h.2.2.1)))))))).symm)
             have h3b : r ≤ 0 := by omega
             have mkS_8 : ∀ (w' : World) (cs' : List Chunk), St w w' [(wr.heap.size, [.int .i64 ZA, .bool ZP.s, (.slice a0 n0 c0), (.slice a1 n1 c1), .bool ZQ.s, (.slice a2 n2 c2), (.slice a3 n3 c3), .bool ZR.s, (.slice a4 n4 c4), (.slice a5 n5 c5)]), (w1.heap.size, [.bool S.s, (.slice As ns cs), (.slice Bs ms ds)]), (w.heap.size, [.int .i64 N, .bool T.s, t0, t1, (.slice (some ⟨g1, o1, none⟩) n c)])] cs' → w'.cell? ⟨wr.heap.size, 0, none⟩ = some (.int .i64 ZA) ∧ w'.cell? ⟨wr.heap.size, 1, none⟩ = some (.bool ZP.s) ∧ w'.cell? ⟨wr.heap.size, 2, none⟩ = some ((.slice a0 n0 c0)) ∧ w'.cell? ⟨wr.heap.size, 3, none⟩ = some ((.slice a1 n1 c1)) ∧ w'.cell? ⟨wr.heap.size, 4, none⟩ = some (.bool ZQ.s) ∧ w'.cell? ⟨wr.heap.size, 5, none⟩ = some ((.slice a2 n2 c2)) ∧ w'.cell? ⟨wr.heap.size, 6, none⟩ = some ((.slice a3 n3 c3)) ∧ w'.cell? ⟨wr.heap.size, 7, none⟩ = some (.bool ZR.s) ∧ w'.cell? ⟨wr.heap.size, 8, none⟩ = some ((.slice a4 n4 c4)) ∧ w'.cell? ⟨wr.heap.size, 9, none⟩ = some ((.slice a5 n5 c5)) ∧ w'.cell? ⟨w.heap.size, 0, none⟩ = some (.int .i64 N) ∧ w'.cell? ⟨w.heap.size, 1, none⟩ = some (.bool T.s) ∧ w'.cell? ⟨w.heap.size, 2, none⟩ = some (t0) ∧ w'.cell? ⟨w.heap.size, 3, none⟩ = some (t1) ∧ w'.cell? ⟨w.heap.size, 4, none⟩ = some ((.slice (some ⟨g1, o1, none⟩) n c)) := fun w' cs' h => ⟨h.cell 0 0 rfl rfl, h.cell 0 1 rfl rfl, h.cell 0 2 rfl rfl, h.cell 0 3 rfl rfl, h.cell 0 4 rfl rfl, h.cell 0 5 rfl rfl, h.cell 0 6 rfl rfl, h.cell 0 7 rfl rfl, h.cell 0 8 rfl rfl, h.cell 0 9 rfl rfl, h.cell 2 0 rfl rfl, h.cell 2 1 rfl rfl, h.cell 2 2 rfl rfl, h.cell 2 3 rfl rfl, h.cell 2 4 rfl rfl⟩
             refine wp_region_noPanic ?_
             refine wp_region_held_drew (S := (fun w' => w'.cell? ⟨wr.heap.size, 0, none⟩ = some (.int .i64 ZA) ∧ w'.cell? ⟨wr.heap.size, 1, none⟩ = some (.bool ZP.s) ∧ w'.cell? ⟨wr.heap.size, 2, none⟩ = some ((.slice a0 n0 c0)) ∧ w'.cell? ⟨wr.heap.size, 3, none⟩ = some ((.slice a1 n1 c1)) ∧ w'.cell? ⟨wr.heap.size, 4, none⟩ = some (.bool ZQ.s) ∧ w'.cell? ⟨wr.heap.size, 5, none⟩ = some ((.slice a2 n2 c2)) ∧ w'.cell? ⟨wr.heap.size, 6, none⟩ = some ((.slice a3 n3 c3)) ∧ w'.cell? ⟨wr.heap.size, 7, none⟩ = some (.bool ZR.s) ∧ w'.cell? ⟨wr.heap.size, 8, none⟩ = some ((.slice a4 n4 c4)) ∧ w'.cell? ⟨wr.heap.size, 9, none⟩ = some ((.slice a5 n5 c5)) ∧ w'.cell? ⟨w.heap.size, 0, none⟩ = some (.int .i64 N) ∧ w'.cell? ⟨w.heap.size, 1, none⟩ = some (.bool T.s) ∧ w'.cell? ⟨w.heap.size, 2, none⟩ = some (t0) ∧ w'.cell? ⟨w.heap.size, 3, none⟩ = some (t1) ∧ w'.cell? ⟨w.heap.size, 4, none⟩ = some ((.slice (some ⟨g1, o1, none⟩) n c)))) (by kernel_rfl) ?_ (fun hHeld => ?_)
             · exact mkS_8 _ _ S_4.out.drew
             refine tkH 0 ?_ ⟨some 15, .fieldAddr 63 (.tmp 5) 0, 0, "l08_star.go:8", #[], none⟩ ?_ ?_
             rotate_left
             · intro w9 hSw; (try dsimp only at hSw); go_simp; try with_reducible rfl
             try simp only [pm, s0, sS]
             refine tkH 1 ?_ ⟨some 16, .load 3 (.tmp 15), 3, "l08_star.go:8", #[⟨0, .data⟩], none⟩ ?_ ?_
             rotate_left
             · intro w9 hSw; (try dsimp only at hSw); go_simp; try with_reducible rfl
             try simp only [pm, s0, sS]
             refine wpAnyH_ready (rs := [2]) (by kernel_rfl) (by simp) ?_
             refine AllReadyH.cons (o := ⟨some 17, .call { callee := .value (.func 52), args := #[.tmp 16], argTypes := #[3] }, 4, "l08_star.go:8", #[⟨1, .data⟩], none⟩) rfl (fun K hK => ?_) AllReadyH.nil
             go_simp
             go_at_call 52
             refine (l06Node_any ZA _).mono ?_
             rintro e w9 ⟨rfl, hw⟩
             obtain rfl := hw.symm
             rw [HND.out]
             refine hK.out _ _ (mkS_8 _ _ S_4.out.drew) (fun hHeld2 => ?_)
             clear hK K
             try simp only [pm, s0, sS]
             refine tkH 3 ?_ ⟨some 18, .unOp .not 4 (.tmp 17), 4, "l08_star.go:8", #[⟨2, .data⟩], none⟩ ?_ ?_
             rotate_left
             · intro w9 hSw; (try dsimp only at hSw); go_simp; try with_reducible rfl
             try simp only [pm, s0, sS]
             refine tkH 4 ?_ ⟨some 19, .move (.tmp 18), 4, "l08_star.go:8", #[⟨3, .data⟩, ⟨2, .chain⟩], none⟩ ?_ ?_
             rotate_left
             · intro w9 hSw; (try dsimp only at hSw); go_simp; try with_reducible rfl
             try simp only [pm, s0, sS]
             refine tkH 5 ?_ ⟨some 20, .fieldAddr 63 (.tmp 5) 0, 0, "l08_star.go:8", #[⟨4, .guard⟩], some (4, false)⟩ ?_ ?_
             rotate_left
             · intro w9 hSw; (try dsimp only at hSw); go_simp; try with_reducible rfl
             try simp only [pm, s0, sS]
             refine tkH 6 ?_ ⟨some 21, .load 3 (.tmp 20), 3, "l08_star.go:8", #[⟨5, .data⟩, ⟨4, .guard⟩], some (4, false)⟩ ?_ ?_
             rotate_left
             · intro w9 hSw; (try dsimp only at hSw); go_simp; try with_reducible rfl
             try simp only [pm, s0, sS]
             refine tkH 7 ?_ ⟨some 22, .fieldAddr 60 (.tmp 1) 0, 0, "l08_star.go:8", #[⟨4, .guard⟩], some (4, false)⟩ ?_ ?_
             rotate_left
             · intro w9 hSw; (try dsimp only at hSw); go_simp; try with_reducible rfl
             try simp only [pm, s0, sS]
             refine tkH 8 ?_ ⟨some 23, .load 3 (.tmp 22), 3, "l08_star.go:8", #[⟨7, .data⟩, ⟨4, .guard⟩], some (4, false)⟩ ?_ ?_
             rotate_left
             · intro w9 hSw; (try dsimp only at hSw); go_simp; try with_reducible rfl
             try simp only [pm, s0, sS]
             refine tkH 9 ?_ ⟨some 24, .binOp .eql 3 (.tmp 21) (.tmp 23) 3, 4, "l08_star.go:8", #[⟨6, .data⟩, ⟨8, .data⟩, ⟨4, .guard⟩], some (4, false)⟩ ?_ ?_
             rotate_left
             · intro w9 hSw; (try dsimp only at hSw); go_simp; try with_reducible rfl
             try simp only [pm, s0, sS]
             refine tkH 10 ?_ ⟨some 25, .pick (.tmp 19) (.const (Value.bool true)) (.tmp 24), 4, "l08_star.go:8", #[⟨4, .data⟩, ⟨9, .data⟩], none⟩ ?_ ?_
             rotate_left
             · intro w9 hSw; (try dsimp only at hSw); go_simp; try with_reducible rfl
             try simp only [pm, s0, sS]
             refine tkH 11 ?_ ⟨some 26, .move (.tmp 25), 4, "l08_star.go:8", #[⟨10, .data⟩, ⟨4, .chain⟩], none⟩ ?_ ?_
             rotate_left
             · intro w9 hSw; (try dsimp only at hSw); go_simp; try with_reducible rfl
             try simp only [pm, s0, sS]
             refine tkH 12 ?_ ⟨some 27, .move (.tmp 4), 3, "l08_star.go:8", #[⟨11, .guard⟩], some (11, false)⟩ ?_ ?_
             rotate_left
             · intro w9 hSw; (try dsimp only at hSw); go_simp; try with_reducible rfl
             try simp only [pm, s0, sS]
             refine tkH 13 ?_ ⟨some 28, .binOp .gtr 3 (.tmp 27) (.const (Value.int IntKind.i64 0)) 3, 4, "l08_star.go:8", #[⟨12, .data⟩, ⟨11, .guard⟩], some (11, false)⟩ ?_ ?_
             rotate_left
             · intro w9 hSw; (try dsimp only at hSw); go_simp; try with_reducible rfl
             try simp only [pm, s0, sS]
             refine tkH 14 ?_ ⟨some 29, .move (.tmp 28), 4, "l08_star.go:8", #[⟨13, .data⟩, ⟨11, .chain⟩, ⟨11, .guard⟩], some (11, false)⟩ ?_ ?_
             rotate_left
             · intro w9 hSw; (try dsimp only at hSw); go_simp; try with_reducible rfl
             try simp only [pm, s0, sS]
             refine tkN 15 ⟨some 30, .fieldAddr 60 (.tmp 1) 2, 0, "l08_star.go:8", #[⟨14, .guard⟩], some (14, true)⟩ ?_
             try simp only [pm, s0, sS]
             refine tkN 16 ⟨some 31, .load 58 (.tmp 30), 58, "l08_star.go:8", #[⟨15, .data⟩, ⟨14, .guard⟩], some (14, true)⟩ ?_
             try simp only [pm, s0, sS]
             refine tkN 17 ⟨some 32, .move (.tmp 4), 3, "l08_star.go:8", #[⟨14, .guard⟩], some (14, true)⟩ ?_
             try simp only [pm, s0, sS]
             refine tkN 18 ⟨some 33, .binOp .sub 3 (.tmp 32) (.const (Value.int IntKind.i64 1)) 3, 3, "l08_star.go:8", #[⟨17, .data⟩, ⟨14, .guard⟩], some (14, true)⟩ ?_
             try simp only [pm, s0, sS]
             refine tkN 19 ⟨some 34, .indexAddr 58 (.tmp 31) (.tmp 33), 0, "l08_star.go:8", #[⟨16, .data⟩, ⟨18, .data⟩, ⟨14, .guard⟩], some (14, true)⟩ ?_
             try simp only [pm, s0, sS]
             refine tkN 20 ⟨some 35, .fieldAddr 63 (.tmp 34) 0, 0, "l08_star.go:8", #[⟨19, .data⟩, ⟨14, .guard⟩], some (14, true)⟩ ?_
             try simp only [pm, s0, sS]
             refine tkN 21 ⟨some 36, .load 3 (.tmp 35), 3, "l08_star.go:8", #[⟨20, .data⟩, ⟨14, .guard⟩], some (14, true)⟩ ?_
             try simp only [pm, s0, sS]
             refine tkN 22 ⟨some 37, .fieldAddr 63 (.tmp 5) 0, 0, "l08_star.go:8", #[⟨14, .guard⟩], some (14, true)⟩ ?_
             try simp only [pm, s0, sS]
             refine tkN 23 ⟨some 38, .load 3 (.tmp 37), 3, "l08_star.go:8", #[⟨22, .data⟩, ⟨14, .guard⟩], some (14, true)⟩ ?_
             try simp only [pm, s0, sS]
             refine tkN 24 ⟨some 39, .binOp .geq 3 (.tmp 36) (.tmp 38) 3, 4, "l08_star.go:8", #[⟨21, .data⟩, ⟨23, .data⟩, ⟨14, .guard⟩], some (14, true)⟩ ?_
             try simp only [pm, s0, sS]
             refine tkH 25 ?_ ⟨some 40, .pick (.tmp 29) (.tmp 39) (.const (Value.bool false)), 4, "l08_star.go:8", #[⟨14, .data⟩, ⟨24, .data⟩, ⟨11, .guard⟩], some (11, false)⟩ ?_ ?_
             rotate_left
             · intro w9 hSw; (try dsimp only at hSw); go_simp; try with_reducible rfl
             try simp only [pm, s0, sS]
             refine tkH 26 ?_ ⟨some 41, .pick (.tmp 26) (.const (Value.bool true)) (.tmp 40), 4, "l08_star.go:8", #[⟨11, .data⟩, ⟨25, .data⟩], none⟩ ?_ ?_
             rotate_left
             · intro w9 hSw; (try dsimp only at hSw); go_simp; try with_reducible rfl
             try simp only [pm, s0, sS]
             refine tkH 27 ?_ ⟨some 42, .move (.tmp 41), 4, "l08_star.go:8", #[⟨26, .data⟩, ⟨14, .chain⟩], none⟩ ?_ ?_
             rotate_left
             · intro w9 hSw; (try dsimp only at hSw); go_simp; try with_reducible rfl
             try simp only [pm, s0, sS]
             refine tkH 28 ?_ ⟨some 43, .fieldAddr 63 (.tmp 5) 1, 0, "l08_star.go:8", #[⟨27, .guard⟩], some (27, false)⟩ ?_ ?_
             rotate_left
             · intro w9 hSw; (try dsimp only at hSw); go_simp; try with_reducible rfl
             try simp only [pm, s0, sS]
             refine tkH 29 ?_ ⟨some 44, .load 37 (.tmp 43), 37, "l08_star.go:8", #[⟨28, .data⟩, ⟨27, .guard⟩], some (27, false)⟩ ?_ ?_
             rotate_left
             · intro w9 hSw; (try dsimp only at hSw); go_simp; try with_reducible rfl
             try simp only [pm, s0, sS]
             refine wpAnyH_ready (rs := [30]) (by kernel_rfl) (by simp) ?_
             refine AllReadyH.cons (o := ⟨some 45, .call { callee := .value (.func 53), args := #[.tmp 44], argTypes := #[37] }, 3, "l08_star.go:8", #[⟨29, .data⟩, ⟨27, .chain⟩, ⟨27, .guard⟩], some (27, false)⟩) rfl (fun K hK => ?_) AllReadyH.nil
             go_simp
             go_at_call 53
             refine (ratSign_s ZP (.slice a0 n0 c0) (.slice a1 n1 c1) _ (HR.out.below S_4.out.drew.below (ZP, .slice a0 n0 c0, .slice a1 n1 c1) (by simp))).mono ?_
             rintro e w5 ⟨rfl, hb⟩
             rw [HRG.out] at ⊢
             have S_8 := Lib.hid (S_4.out.drew.call hb)
             clear S_4 hb
             refine hK.out _ _ (mkS_8 _ _ S_8.out) (fun hHeld30 => ?_)
             clear hK K
             try simp only [pm, s0, sS]
             refine tkH 31 ?_ ⟨some 46, .binOp .leq 3 (.tmp 45) (.const (Value.int IntKind.i64 0)) 3, 4, "l08_star.go:8", #[⟨30, .data⟩, ⟨27, .guard⟩], some (27, false)⟩ ?_ ?_
             rotate_left
             · intro w9 hSw; (try dsimp only at hSw); go_simp; try with_reducible rfl
             try simp only [pm, s0, sS]
             refine tkH 32 ?_ ⟨some 47, .pick (.tmp 42) (.const (Value.bool true)) (.tmp 46), 4, "l08_star.go:8", #[⟨27, .data⟩, ⟨31, .data⟩], none⟩ ?_ ?_
             rotate_left
             · intro w9 hSw; (try dsimp only at hSw); go_simp; try with_reducible rfl
             try simp only [pm, s0, sS]
             refine tkH 33 ?_ ⟨some 48, .move (.tmp 47), 4, "l08_star.go:8", #[⟨32, .data⟩, ⟨30, .chain⟩], none⟩ ?_ ?_
             rotate_left
             · intro w9 hSw; (try dsimp only at hSw); go_simp; try with_reducible rfl
             try simp only [pm, s0, sS]
             refine tkN 34 ⟨some 49, .fieldAddr 63 (.tmp 5) 2, 0, "l08_star.go:8", #[⟨33, .guard⟩], some (33, false)⟩ ?_
             try simp only [pm, s0, sS]
             refine tkN 35 ⟨some 50, .load 37 (.tmp 49), 37, "l08_star.go:8", #[⟨34, .data⟩, ⟨33, .guard⟩], some (33, false)⟩ ?_
             try simp only [pm, s0, sS]
             refine wpAnyH_ready (rs := [36]) (by kernel_rfl) (by simp) ?_
             refine AllReadyH.cons (o := ⟨some 51, .call { callee := .value (.func 35), args := #[.tmp 50], argTypes := #[37] }, 4, "l08_star.go:8", #[⟨35, .data⟩, ⟨33, .chain⟩, ⟨33, .guard⟩], some (33, false)⟩) rfl (fun K hK => ?_) AllReadyH.nil
             go_simp
             refine hK.out _ _ (mkS_8 _ _ S_8.out) (fun hHeld36 => ?_)
             clear hK K
             try simp only [pm, s0, sS]
             refine tkN 37 ⟨some 52, .unOp .not 4 (.tmp 51), 4, "l08_star.go:8", #[⟨36, .data⟩, ⟨33, .guard⟩], some (33, false)⟩ ?_
             try simp only [pm, s0, sS]
             refine tkH 38 ?_ ⟨some 53, .pick (.tmp 48) (.const (Value.bool true)) (.tmp 52), 4, "l08_star.go:8", #[⟨33, .data⟩, ⟨37, .data⟩], none⟩ ?_ ?_
             rotate_left
             · intro w9 hSw; (try dsimp only at hSw); go_simp; try with_reducible rfl
             try simp only [pm, s0, sS]
             refine tkH 39 ?_ ⟨some 54, .move (.tmp 53), 4, "l08_star.go:8", #[⟨38, .data⟩, ⟨36, .chain⟩], none⟩ ?_ ?_
             rotate_left
             · intro w9 hSw; (try dsimp only at hSw); go_simp; try with_reducible rfl
             try simp only [pm, s0, sS]
             refine tkN 40 ⟨some 55, .fieldAddr 63 (.tmp 5) 3, 0, "l08_star.go:8", #[⟨39, .guard⟩], some (39, false)⟩ ?_
             try simp only [pm, s0, sS]
             refine tkN 41 ⟨some 56, .load 37 (.tmp 55), 37, "l08_star.go:8", #[⟨40, .data⟩, ⟨39, .guard⟩], some (39, false)⟩ ?_
             try simp only [pm, s0, sS]
             refine wpAnyH_ready (rs := [42]) (by kernel_rfl) (by simp) ?_
             refine AllReadyH.cons (o := ⟨some 57, .call { callee := .value (.func 35), args := #[.tmp 56], argTypes := #[37] }, 4, "l08_star.go:8", #[⟨41, .data⟩, ⟨39, .chain⟩, ⟨39, .guard⟩], some (39, false)⟩) rfl (fun K hK => ?_) AllReadyH.nil
             go_simp
             refine hK.out _ _ (mkS_8 _ _ S_8.out) (fun hHeld42 => ?_)
             clear hK K
             try simp only [pm, s0, sS]
             refine tkN 43 ⟨some 58, .unOp .not 4 (.tmp 57), 4, "l08_star.go:8", #[⟨42, .data⟩, ⟨39, .guard⟩], some (39, false)⟩ ?_
             try simp only [pm, s0, sS]
             refine tkH 44 ?_ ⟨some 59, .pick (.tmp 54) (.const (Value.bool true)) (.tmp 58), 4, "l08_star.go:8", #[⟨39, .data⟩, ⟨43, .data⟩], none⟩ ?_ ?_
             rotate_left
             · intro w9 hSw; (try dsimp only at hSw); go_simp; try with_reducible rfl
             try simp only [pm, s0, sS]
             refine wpAnyH_done (by kernel_rfl) ?_ _
             refine NoPanic.normal ?_
             go_wp2
             go_ret
             exact ⟨ret_bool HE.out, S_8.out.below⟩
         · obtain ⟨j, hj⟩ : ∃ j, k = j + 1 := ⟨k - 1, by omega⟩
           obtain ⟨g2, o2, y, hgo, _, hy, hry, hsy, hcy⟩ := HA.out.at_ (show j < n by omega)
           obtain ⟨rfl, rfl⟩ : g1 = g2 ∧ o1 = o2 := by simpa using hgo
           obtain ⟨YA, YP, YQ, YR, b0, m0, e0, b1, m1, e1, b2, m2, e2, b3, m3, e3, b4, m4, e4, b5, m5, e5, rfl⟩ := Rc.shapes13 hsy hry
           have HY := Lib.hid (dats_get hy)
           have y0 : w.cell? ⟨g1, o1 + j * 10, none⟩ = some (.int .i64 YA) := hcy 0 _ rfl
           clear hy hry hsy hcy hgo
           have hk0 : (0 : Int) ≤ (j : Int) := by omega
           have hk2 : (j : Int) < (n : Int) := by omega
           have hk7 : IntKind.i64.wrap ((k : Int) - 1) = (j : Int) := by rw [IntKind.wrap_i64]; omega
           have h7b : decide ((0 : Int) < (k : Int)) = true := decide_eq_true (by omega)
           have h7c : decide (0 < k) = true := decide_eq_true (by omega)
           have hk9 : (0 : Int) < (k : Int) := by omega
           have hk8 : 0 < k := by omega
           have HJ := Lib.hid hj
           have HZJ := Lib.hid (show (dats zs)[j + 1]? = some (Rc.dat ⟨[ZA], [(ZP, .slice a0 n0 c0, .slice a1 n1 c1), (ZQ, .slice a2 n2 c2, .slice a3 n3 c3), (ZR, .slice a4 n4 c4, .slice a5 n5 c5)]⟩) by rw [← hj]; exact HZ.out)
           clear hj h7
           by_cases h6 : YA < ZA
           · have HA2 := Lib.hid (show ascPa (dats zs) (k + 1) by have h8 := ascPa_step (show ascPa (dats zs) (j + 1) by rw [← HJ.out]; exact HAS.out) HY.out HZJ.out (show YA < ZA from h6); rw [HJ.out]; exact h8)
             have h6b : ¬ ZA ≤ YA := by omega
             by_cases h3 : 0 < r
             · have h3b : ¬ r ≤ 0 := by omega
               by_cases h4 : ZQ.ok = true
               · have HQX := Lib.hid h4
                 obtain ⟨rk, hrk⟩ : ∃ z, ZR.ok = z := ⟨_, rfl⟩
                 have HRX := Lib.hid hrk
                 have HH := Lib.hid (And.intro h1 (And.intro h2 (And.intro h3 h4)))
                 clear hrk h1 h2 h3 h4
                 have mkS_9 : ∀ (w' : World) (cs' : List Chunk), St w w' [(wr.heap.size, [.int .i64 ZA, .bool ZP.s, (.slice a0 n0 c0), (.slice a1 n1 c1), .bool ZQ.s, (.slice a2 n2 c2), (.slice a3 n3 c3), .bool ZR.s, (.slice a4 n4 c4), (.slice a5 n5 c5)]), (w1.heap.size, [.bool S.s, (.slice As ns cs), (.slice Bs ms ds)]), (w.heap.size, [.int .i64 N, .bool T.s, t0, t1, (.slice (some ⟨g1, o1, none⟩) n c)])] cs' → w'.cell? ⟨wr.heap.size, 0, none⟩ = some (.int .i64 ZA) ∧ w'.cell? ⟨wr.heap.size, 1, none⟩ = some (.bool ZP.s) ∧ w'.cell? ⟨wr.heap.size, 2, none⟩ = some ((.slice a0 n0 c0)) ∧ w'.cell? ⟨wr.heap.size, 3, none⟩ = some ((.slice a1 n1 c1)) ∧ w'.cell? ⟨wr.heap.size, 4, none⟩ = some (.bool ZQ.s) ∧ w'.cell? ⟨wr.heap.size, 5, none⟩ = some ((.slice a2 n2 c2)) ∧ w'.cell? ⟨wr.heap.size, 6, none⟩ = some ((.slice a3 n3 c3)) ∧ w'.cell? ⟨wr.heap.size, 7, none⟩ = some (.bool ZR.s) ∧ w'.cell? ⟨wr.heap.size, 8, none⟩ = some ((.slice a4 n4 c4)) ∧ w'.cell? ⟨wr.heap.size, 9, none⟩ = some ((.slice a5 n5 c5)) ∧ w'.cell? ⟨w.heap.size, 0, none⟩ = some (.int .i64 N) ∧ w'.cell? ⟨w.heap.size, 1, none⟩ = some (.bool T.s) ∧ w'.cell? ⟨w.heap.size, 2, none⟩ = some (t0) ∧ w'.cell? ⟨w.heap.size, 3, none⟩ = some (t1) ∧ w'.cell? ⟨w.heap.size, 4, none⟩ = some ((.slice (some ⟨g1, o1, none⟩) n c)) ∧ w'.cell? ⟨g1, o1 + j * 10, none⟩ = some (.int .i64 YA) := fun w' cs' h => ⟨h.cell 0 0 rfl rfl, h.cell 0 1 rfl rfl, h.cell 0 2 rfl rfl, h.cell 0 3 rfl rfl, h.cell 0 4 rfl rfl, h.cell 0 5 rfl rfl, h.cell 0 6 rfl rfl, h.cell 0 7 rfl rfl, h.cell 0 8 rfl rfl, h.cell 0 9 rfl rfl, h.cell 2 0 rfl rfl, h.cell 2 1 rfl rfl, h.cell 2 2 rfl rfl, h.cell 2 3 rfl rfl, h.cell 2 4 rfl rfl, (h.below.cell (p := ⟨g1, o1 + j * 10, none⟩) hg1).trans y0⟩
                 refine wp_region_noPanic ?_
                 refine wp_region_held_drew (S := (fun w' => w'.cell? ⟨wr.heap.size, 0, none⟩ = some (.int .i64 ZA) ∧ w'.cell? ⟨wr.heap.size, 1, none⟩ = some (.bool ZP.s) ∧ w'.cell? ⟨wr.heap.size, 2, none⟩ = some ((.slice a0 n0 c0)) ∧ w'.cell? ⟨wr.heap.size, 3, none⟩ = some ((.slice a1 n1 c1)) ∧ w'.cell? ⟨wr.heap.size, 4, none⟩ = some (.bool ZQ.s) ∧ w'.cell? ⟨wr.heap.size, 5, none⟩ = some ((.slice a2 n2 c2)) ∧ w'.cell? ⟨wr.heap.size, 6, none⟩ = some ((.slice a3 n3 c3)) ∧ w'.cell? ⟨wr.heap.size, 7, none⟩ = some (.bool ZR.s) ∧ w'.cell? ⟨wr.heap.size, 8, none⟩ = some ((.slice a4 n4 c4)) ∧ w'.cell? ⟨wr.heap.size, 9, none⟩ = some ((.slice a5 n5 c5)) ∧ w'.cell? ⟨w.heap.size, 0, none⟩ = some (.int .i64 N) ∧ w'.cell? ⟨w.heap.size, 1, none⟩ = some (.bool T.s) ∧ w'.cell? ⟨w.heap.size, 2, none⟩ = some (t0) ∧ w'.cell? ⟨w.heap.size, 3, none⟩ = some (t1) ∧ w'.cell? ⟨w.heap.size, 4, none⟩ = some ((.slice (some ⟨g1, o1, none⟩) n c)) ∧ w'.cell? ⟨g1, o1 + j * 10, none⟩ = some (.int .i64 YA))) (by kernel_rfl) ?_ (fun hHeld => ?_)
                 · exact mkS_9 _ _ S_4.out.drew
                 refine tkH 0 ?_ ⟨some 15, .fieldAddr 63 (.tmp 5) 0, 0, "l08_star.go:8", #[], none⟩ ?_ ?_
                 rotate_left
                 · intro w9 hSw; (try dsimp only at hSw); go_simp; try with_reducible rfl
                 try simp only [pm, s0, sS]
                 refine tkH 1 ?_ ⟨some 16, .load 3 (.tmp 15), 3, "l08_star.go:8", #[⟨0, .data⟩], none⟩ ?_ ?_
                 rotate_left
                 · intro w9 hSw; (try dsimp only at hSw); go_simp; try with_reducible rfl
                 try simp only [pm, s0, sS]
                 refine wpAnyH_ready (rs := [2]) (by kernel_rfl) (by simp) ?_
                 refine AllReadyH.cons (o := ⟨some 17, .call { callee := .value (.func 52), args := #[.tmp 16], argTypes := #[3] }, 4, "l08_star.go:8", #[⟨1, .data⟩], none⟩) rfl (fun K hK => ?_) AllReadyH.nil
                 go_simp
                 go_at_call 52
                 refine (l06Node_any ZA _).mono ?_
                 rintro e w9 ⟨rfl, hw⟩
                 obtain rfl := hw.symm
                 rw [HND.out]
                 refine hK.out _ _ (mkS_9 _ _ S_4.out.drew) (fun hHeld2 => ?_)
                 clear hK K
                 try simp only [pm, s0, sS]
                 refine tkH 3 ?_ ⟨some 18, .unOp .not 4 (.tmp 17), 4, "l08_star.go:8", #[⟨2, .data⟩], none⟩ ?_ ?_
                 rotate_left
                 · intro w9 hSw; (try dsimp only at hSw); go_simp; try with_reducible rfl
                 try simp only [pm, s0, sS]
                 refine tkH 4 ?_ ⟨some 19, .move (.tmp 18), 4, "l08_star.go:8", #[⟨3, .data⟩, ⟨2, .chain⟩], none⟩ ?_ ?_
                 rotate_left
                 · intro w9 hSw; (try dsimp only at hSw); go_simp; try with_reducible rfl
                 try simp only [pm, s0, sS]
                 refine tkH 5 ?_ ⟨some 20, .fieldAddr 63 (.tmp 5) 0, 0, "l08_star.go:8", #[⟨4, .guard⟩], some (4, false)⟩ ?_ ?_
                 rotate_left
                 · intro w9 hSw; (try dsimp only at hSw); go_simp; try with_reducible rfl
                 try simp only [pm, s0, sS]
                 refine tkH 6 ?_ ⟨some 21, .load 3 (.tmp 20), 3, "l08_star.go:8", #[⟨5, .data⟩, ⟨4, .guard⟩], some (4, false)⟩ ?_ ?_
                 rotate_left
                 · intro w9 hSw; (try dsimp only at hSw); go_simp; try with_reducible rfl
                 try simp only [pm, s0, sS]
                 refine tkH 7 ?_ ⟨some 22, .fieldAddr 60 (.tmp 1) 0, 0, "l08_star.go:8", #[⟨4, .guard⟩], some (4, false)⟩ ?_ ?_
                 rotate_left
                 · intro w9 hSw; (try dsimp only at hSw); go_simp; try with_reducible rfl
                 try simp only [pm, s0, sS]
                 refine tkH 8 ?_ ⟨some 23, .load 3 (.tmp 22), 3, "l08_star.go:8", #[⟨7, .data⟩, ⟨4, .guard⟩], some (4, false)⟩ ?_ ?_
                 rotate_left
                 · intro w9 hSw; (try dsimp only at hSw); go_simp; try with_reducible rfl
                 try simp only [pm, s0, sS]
                 refine tkH 9 ?_ ⟨some 24, .binOp .eql 3 (.tmp 21) (.tmp 23) 3, 4, "l08_star.go:8", #[⟨6, .data⟩, ⟨8, .data⟩, ⟨4, .guard⟩], some (4, false)⟩ ?_ ?_
                 rotate_left
                 · intro w9 hSw; (try dsimp only at hSw); go_simp; try with_reducible rfl
                 try simp only [pm, s0, sS]
                 refine tkH 10 ?_ ⟨some 25, .pick (.tmp 19) (.const (Value.bool true)) (.tmp 24), 4, "l08_star.go:8", #[⟨4, .data⟩, ⟨9, .data⟩], none⟩ ?_ ?_
                 rotate_left
                 · intro w9 hSw; (try dsimp only at hSw); go_simp; try with_reducible rfl
                 try simp only [pm, s0, sS]
                 refine tkH 11 ?_ ⟨some 26, .move (.tmp 25), 4, "l08_star.go:8", #[⟨10, .data⟩, ⟨4, .chain⟩], none⟩ ?_ ?_
                 rotate_left
                 · intro w9 hSw; (try dsimp only at hSw); go_simp; try with_reducible rfl
                 try simp only [pm, s0, sS]
                 refine tkH 12 ?_ ⟨some 27, .move (.tmp 4), 3, "l08_star.go:8", #[⟨11, .guard⟩], some (11, false)⟩ ?_ ?_
                 rotate_left
                 · intro w9 hSw; (try dsimp only at hSw); go_simp; try with_reducible rfl
                 try simp only [pm, s0, sS]
                 refine tkH 13 ?_ ⟨some 28, .binOp .gtr 3 (.tmp 27) (.const (Value.int IntKind.i64 0)) 3, 4, "l08_star.go:8", #[⟨12, .data⟩, ⟨11, .guard⟩], some (11, false)⟩ ?_ ?_
                 rotate_left
                 · intro w9 hSw; (try dsimp only at hSw); go_simp; try with_reducible rfl
                 try simp only [pm, s0, sS]
                 refine tkH 14 ?_ ⟨some 29, .move (.tmp 28), 4, "l08_star.go:8", #[⟨13, .data⟩, ⟨11, .chain⟩, ⟨11, .guard⟩], some (11, false)⟩ ?_ ?_
                 rotate_left
                 · intro w9 hSw; (try dsimp only at hSw); go_simp; try with_reducible rfl
                 try simp only [pm, s0, sS]
                 refine tkH 15 ?_ ⟨some 30, .fieldAddr 60 (.tmp 1) 2, 0, "l08_star.go:8", #[⟨14, .guard⟩], some (14, true)⟩ ?_ ?_
                 rotate_left
                 · intro w9 hSw; (try dsimp only at hSw); go_simp; try with_reducible rfl
                 try simp only [pm, s0, sS]
                 refine tkH 16 ?_ ⟨some 31, .load 58 (.tmp 30), 58, "l08_star.go:8", #[⟨15, .data⟩, ⟨14, .guard⟩], some (14, true)⟩ ?_ ?_
                 rotate_left
                 · intro w9 hSw; (try dsimp only at hSw); go_simp; try with_reducible rfl
                 try simp only [pm, s0, sS]
                 refine tkH 17 ?_ ⟨some 32, .move (.tmp 4), 3, "l08_star.go:8", #[⟨14, .guard⟩], some (14, true)⟩ ?_ ?_
                 rotate_left
                 · intro w9 hSw; (try dsimp only at hSw); go_simp; try with_reducible rfl
                 try simp only [pm, s0, sS]
                 refine tkH 18 ?_ ⟨some 33, .binOp .sub 3 (.tmp 32) (.const (Value.int IntKind.i64 1)) 3, 3, "l08_star.go:8", #[⟨17, .data⟩, ⟨14, .guard⟩], some (14, true)⟩ ?_ ?_
                 rotate_left
                 · intro w9 hSw; (try dsimp only at hSw); go_simp; try with_reducible rfl
                 try simp only [pm, s0, sS]
                 refine tkH 19 ?_ ⟨some 34, .indexAddr 58 (.tmp 31) (.tmp 33), 0, "l08_star.go:8", #[⟨16, .data⟩, ⟨18, .data⟩, ⟨14, .guard⟩], some (14, true)⟩ ?_ ?_
                 rotate_left
                 · intro w9 hSw; (try dsimp only at hSw); go_simp; try with_reducible rfl
                 try simp only [pm, s0, sS]
                 refine tkH 20 ?_ ⟨some 35, .fieldAddr 63 (.tmp 34) 0, 0, "l08_star.go:8", #[⟨19, .data⟩, ⟨14, .guard⟩], some (14, true)⟩ ?_ ?_
                 rotate_left
                 · intro w9 hSw; (try dsimp only at hSw); go_simp; try with_reducible rfl
                 try simp only [pm, s0, sS]
                 refine tkH 21 ?_ ⟨some 36, .load 3 (.tmp 35), 3, "l08_star.go:8", #[⟨20, .data⟩, ⟨14, .guard⟩], some (14, true)⟩ ?_ ?_
                 rotate_left
                 · intro w9 hSw; (try dsimp only at hSw); go_simp; try with_reducible rfl
                 try simp only [pm, s0, sS]
                 refine tkH 22 ?_ ⟨some 37, .fieldAddr 63 (.tmp 5) 0, 0, "l08_star.go:8", #[⟨14, .guard⟩], some (14, true)⟩ ?_ ?_
                 rotate_left
                 · intro w9 hSw; (try dsimp only at hSw); go_simp; try with_reducible rfl
                 try simp only [pm, s0, sS]
                 refine tkH 23 ?_ ⟨some 38, .load 3 (.tmp 37), 3, "l08_star.go:8", #[⟨22, .data⟩, ⟨14, .guard⟩], some (14, true)⟩ ?_ ?_
                 rotate_left
                 · intro w9 hSw; (try dsimp only at hSw); go_simp; try with_reducible rfl
                 try simp only [pm, s0, sS]
                 refine tkH 24 ?_ ⟨some 39, .binOp .geq 3 (.tmp 36) (.tmp 38) 3, 4, "l08_star.go:8", #[⟨21, .data⟩, ⟨23, .data⟩, ⟨14, .guard⟩], some (14, true)⟩ ?_ ?_
                 rotate_left
                 · intro w9 hSw; (try dsimp only at hSw); go_simp; try with_reducible rfl
                 try simp only [pm, s0, sS]
                 refine tkH 25 ?_ ⟨some 40, .pick (.tmp 29) (.tmp 39) (.const (Value.bool false)), 4, "l08_star.go:8", #[⟨14, .data⟩, ⟨24, .data⟩, ⟨11, .guard⟩], some (11, false)⟩ ?_ ?_
                 rotate_left
                 · intro w9 hSw; (try dsimp only at hSw); go_simp; try with_reducible rfl
                 try simp only [pm, s0, sS]
                 refine tkH 26 ?_ ⟨some 41, .pick (.tmp 26) (.const (Value.bool true)) (.tmp 40), 4, "l08_star.go:8", #[⟨11, .data⟩, ⟨25, .data⟩], none⟩ ?_ ?_
                 rotate_left
                 · intro w9 hSw; (try dsimp only at hSw); go_simp; try with_reducible rfl
                 try simp only [pm, s0, sS]
                 refine tkH 27 ?_ ⟨some 42, .move (.tmp 41), 4, "l08_star.go:8", #[⟨26, .data⟩, ⟨14, .chain⟩], none⟩ ?_ ?_
                 rotate_left
                 · intro w9 hSw; (try dsimp only at hSw); go_simp; try with_reducible rfl
                 try simp only [pm, s0, sS]
                 refine tkH 28 ?_ ⟨some 43, .fieldAddr 63 (.tmp 5) 1, 0, "l08_star.go:8", #[⟨27, .guard⟩], some (27, false)⟩ ?_ ?_
                 rotate_left
                 · intro w9 hSw; (try dsimp only at hSw); go_simp; try with_reducible rfl
                 try simp only [pm, s0, sS]
                 refine tkH 29 ?_ ⟨some 44, .load 37 (.tmp 43), 37, "l08_star.go:8", #[⟨28, .data⟩, ⟨27, .guard⟩], some (27, false)⟩ ?_ ?_
                 rotate_left
                 · intro w9 hSw; (try dsimp only at hSw); go_simp; try with_reducible rfl
                 try simp only [pm, s0, sS]
                 refine wpAnyH_ready (rs := [30]) (by kernel_rfl) (by simp) ?_
                 refine AllReadyH.cons (o := ⟨some 45, .call { callee := .value (.func 53), args := #[.tmp 44], argTypes := #[37] }, 3, "l08_star.go:8", #[⟨29, .data⟩, ⟨27, .chain⟩, ⟨27, .guard⟩], some (27, false)⟩) rfl (fun K hK => ?_) AllReadyH.nil
                 go_simp
                 go_at_call 53
                 refine (ratSign_s ZP (.slice a0 n0 c0) (.slice a1 n1 c1) _ (HR.out.below S_4.out.drew.below (ZP, .slice a0 n0 c0, .slice a1 n1 c1) (by simp))).mono ?_
                 rintro e w5 ⟨rfl, hb⟩
                 rw [HRG.out] at ⊢
                 have S_9 := Lib.hid (S_4.out.drew.call hb)
                 clear S_4 hb
                 refine hK.out _ _ (mkS_9 _ _ S_9.out) (fun hHeld30 => ?_)
                 clear hK K
                 try simp only [pm, s0, sS]
                 refine tkH 31 ?_ ⟨some 46, .binOp .leq 3 (.tmp 45) (.const (Value.int IntKind.i64 0)) 3, 4, "l08_star.go:8", #[⟨30, .data⟩, ⟨27, .guard⟩], some (27, false)⟩ ?_ ?_
                 rotate_left
                 · intro w9 hSw; (try dsimp only at hSw); go_simp; try with_reducible rfl
                 try simp only [pm, s0, sS]
                 refine tkH 32 ?_ ⟨some 47, .pick (.tmp 42) (.const (Value.bool true)) (.tmp 46), 4, "l08_star.go:8", #[⟨27, .data⟩, ⟨31, .data⟩], none⟩ ?_ ?_
                 rotate_left
                 · intro w9 hSw; (try dsimp only at hSw); go_simp; try with_reducible rfl
                 try simp only [pm, s0, sS]
                 refine tkH 33 ?_ ⟨some 48, .move (.tmp 47), 4, "l08_star.go:8", #[⟨32, .data⟩, ⟨30, .chain⟩], none⟩ ?_ ?_
                 rotate_left
                 · intro w9 hSw; (try dsimp only at hSw); go_simp; try with_reducible rfl
                 try simp only [pm, s0, sS]
                 refine tkH 34 ?_ ⟨some 49, .fieldAddr 63 (.tmp 5) 2, 0, "l08_star.go:8", #[⟨33, .guard⟩], some (33, false)⟩ ?_ ?_
                 rotate_left
                 · intro w9 hSw; (try dsimp only at hSw); go_simp; try with_reducible rfl
                 try simp only [pm, s0, sS]
                 refine tkH 35 ?_ ⟨some 50, .load 37 (.tmp 49), 37, "l08_star.go:8", #[⟨34, .data⟩, ⟨33, .guard⟩], some (33, false)⟩ ?_ ?_
                 rotate_left
                 · intro w9 hSw; (try dsimp only at hSw); go_simp; try with_reducible rfl
                 try simp only [pm, s0, sS]
                 refine wpAnyH_ready (rs := [36]) (by kernel_rfl) (by simp) ?_
                 refine AllReadyH.cons (o := ⟨some 51, .call { callee := .value (.func 35), args := #[.tmp 50], argTypes := #[37] }, 4, "l08_star.go:8", #[⟨35, .data⟩, ⟨33, .chain⟩, ⟨33, .guard⟩], some (33, false)⟩) rfl (fun K hK => ?_) AllReadyH.nil
                 go_simp
                 go_at_call 35
                 refine (ratOk_s ZQ (.slice a2 n2 c2) (.slice a3 n3 c3) _ (HR.out.below S_9.out.below (ZQ, .slice a2 n2 c2, .slice a3 n3 c3) (by simp))).mono ?_
                 rintro e w6 ⟨rfl, hb⟩
                 rw [HQX.out] at ⊢
                 have S_10 := Lib.hid (S_9.out.call hb)
                 clear S_9 hb
                 refine hK.out _ _ (mkS_9 _ _ S_10.out) (fun hHeld36 => ?_)
                 clear hK K
                 try simp only [pm, s0, sS]
                 refine tkH 37 ?_ ⟨some 52, .unOp .not 4 (.tmp 51), 4, "l08_star.go:8", #[⟨36, .data⟩, ⟨33, .guard⟩], some (33, false)⟩ ?_ ?_
                 rotate_left
                 · intro w9 hSw; (try dsimp only at hSw); go_simp; try with_reducible rfl
                 try simp only [pm, s0, sS]
                 refine tkH 38 ?_ ⟨some 53, .pick (.tmp 48) (.const (Value.bool true)) (.tmp 52), 4, "l08_star.go:8", #[⟨33, .data⟩, ⟨37, .data⟩], none⟩ ?_ ?_
                 rotate_left
                 · intro w9 hSw; (try dsimp only at hSw); go_simp; try with_reducible rfl
                 try simp only [pm, s0, sS]
                 refine tkH 39 ?_ ⟨some 54, .move (.tmp 53), 4, "l08_star.go:8", #[⟨38, .data⟩, ⟨36, .chain⟩], none⟩ ?_ ?_
                 rotate_left
                 · intro w9 hSw; (try dsimp only at hSw); go_simp; try with_reducible rfl
                 try simp only [pm, s0, sS]
                 refine tkH 40 ?_ ⟨some 55, .fieldAddr 63 (.tmp 5) 3, 0, "l08_star.go:8", #[⟨39, .guard⟩], some (39, false)⟩ ?_ ?_
                 rotate_left
                 · intro w9 hSw; (try dsimp only at hSw); go_simp; try with_reducible rfl
                 try simp only [pm, s0, sS]
                 refine tkH 41 ?_ ⟨some 56, .load 37 (.tmp 55), 37, "l08_star.go:8", #[⟨40, .data⟩, ⟨39, .guard⟩], some (39, false)⟩ ?_ ?_
                 rotate_left
                 · intro w9 hSw; (try dsimp only at hSw); go_simp; try with_reducible rfl
                 try simp only [pm, s0, sS]
                 refine wpAnyH_ready (rs := [42]) (by kernel_rfl) (by simp) ?_
                 refine AllReadyH.cons (o := ⟨some 57, .call { callee := .value (.func 35), args := #[.tmp 56], argTypes := #[37] }, 4, "l08_star.go:8", #[⟨41, .data⟩, ⟨39, .chain⟩, ⟨39, .guard⟩], some (39, false)⟩) rfl (fun K hK => ?_) AllReadyH.nil
                 go_simp
                 go_at_call 35
                 refine (ratOk_s ZR (.slice a4 n4 c4) (.slice a5 n5 c5) _ (HR.out.below S_10.out.below (ZR, .slice a4 n4 c4, .slice a5 n5 c5) (by simp))).mono ?_
                 rintro e w7 ⟨rfl, hb⟩
                 rw [HRX.out] at ⊢
                 have S_11 := Lib.hid (S_10.out.call hb)
                 clear S_10 hb
                 refine hK.out _ _ (mkS_9 _ _ S_11.out) (fun hHeld42 => ?_)
                 clear hK K
                 try simp only [pm, s0, sS]
                 refine tkH 43 ?_ ⟨some 58, .unOp .not 4 (.tmp 57), 4, "l08_star.go:8", #[⟨42, .data⟩, ⟨39, .guard⟩], some (39, false)⟩ ?_ ?_
                 rotate_left
                 · intro w9 hSw; (try dsimp only at hSw); go_simp; try with_reducible rfl
                 try simp only [pm, s0, sS]
                 refine tkH 44 ?_ ⟨some 59, .pick (.tmp 54) (.const (Value.bool true)) (.tmp 58), 4, "l08_star.go:8", #[⟨39, .data⟩, ⟨43, .data⟩], none⟩ ?_ ?_
                 rotate_left
                 · intro w9 hSw; (try dsimp only at hSw); go_simp; try with_reducible rfl
                 try simp only [pm, s0, sS]
                 refine wpAnyH_done (by kernel_rfl) ?_ _
                 refine NoPanic.normal ?_
                 cases rk with
                 | false =>
                   have HE := Lib.hid (show false = ok by rw [← HOK.out]; exact (okC_no (.inr (.inr (.inr (.inl (okPa_bad HZ.out (by rw [← Bool.not_eq_true, paOk_parts]; show ¬ ((0 ≤ ZA ∧ ZA < 10) ∧ ¬ ZA = N ∧ 0 < ZP.sgn ∧ ZQ.ok = true ∧ ZR.ok = true); exact fun h => by have h5 := HRX.out; rw [h.2.2.2.2] at h5; exact absurd h5 (by decide)))))))).symm)
                   go_wp2
                   go_ret
                   exact ⟨ret_bool HE.out, S_11.out.below⟩
                 | true =>
                   have HP := Lib.hid (show paOk N (Rc.dat ⟨[ZA], [(ZP, .slice a0 n0 c0, .slice a1 n1 c1), (ZQ, .slice a2 n2 c2, .slice a3 n3 c3), (ZR, .slice a4 n4 c4, .slice a5 n5 c5)]⟩) = true from paOk_parts.mpr (show (0 ≤ ZA ∧ ZA < 10) ∧ ¬ ZA = N ∧ 0 < ZP.sgn ∧ ZQ.ok = true ∧ ZR.ok = true from ⟨HH.out.1, HH.out.2.1, HRG.out ▸ HH.out.2.2.1, HH.out.2.2.2, HRX.out⟩))
                   have hk_c_0_11 := S_11.out.cell 2 0 rfl rfl
                   have hk_c_1_11 := S_11.out.cell 2 1 rfl rfl
                   have hk_c_2_11 := S_11.out.cell 2 2 rfl rfl
                   have hk_c_3_11 := S_11.out.cell 2 3 rfl rfl
                   have hk_c_4_11 := S_11.out.cell 2 4 rfl rfl
                   have hk_sum_0_11 := S_11.out.cell 1 0 rfl rfl
                   have hk_sum_0_11f := S_11.out.froz 1 0 rfl rfl
                   have hk_sum_1_11 := S_11.out.cell 1 1 rfl rfl
                   have hk_sum_1_11f := S_11.out.froz 1 1 rfl rfl
                   have hk_sum_2_11 := S_11.out.cell 1 2 rfl rfl
                   have hk_sum_2_11f := S_11.out.froz 1 2 rfl rfl
                   have hk_p_0_11 := S_11.out.cell 0 0 rfl rfl
                   have hk_p_1_11 := S_11.out.cell 0 1 rfl rfl
                   have hk_p_2_11 := S_11.out.cell 0 2 rfl rfl
                   have hk_p_3_11 := S_11.out.cell 0 3 rfl rfl
                   have hk_p_4_11 := S_11.out.cell 0 4 rfl rfl
                   have hk_p_5_11 := S_11.out.cell 0 5 rfl rfl
                   have hk_p_6_11 := S_11.out.cell 0 6 rfl rfl
                   have hk_p_7_11 := S_11.out.cell 0 7 rfl rfl
                   have hk_p_8_11 := S_11.out.cell 0 8 rfl rfl
                   have hk_p_9_11 := S_11.out.cell 0 9 rfl rfl
                   go_wp2_with fail
                   refine (ratAdd_s S ZP (.slice As ns cs) (.slice Bs ms ds) (.slice a0 n0 c0) (.slice a1 n1 c1) _ (S_11.out.fr 0 0 rfl rfl rfl) (HR.out.below S_11.out.below (ZP, .slice a0 n0 c0, .slice a1 n1 c1) (by simp))).mono ?_
                   rintro e w8 ⟨vq, uq, rfl, ho, hb⟩
                   obtain ⟨Aq, nq, cq, rfl⟩ := (ho.at_ 0 rfl).shape3
                   obtain ⟨Bq, mq, dq, rfl⟩ := (ho.at_ 1 rfl).shape3
                   have S_12 := Lib.hid (S_11.out.rows ho hb)
                   clear S_11
                   clear ho hb
                   clear hk_c_0_11 hk_c_1_11 hk_c_2_11 hk_c_3_11 hk_c_4_11 hk_sum_0_11 hk_sum_0_11f hk_sum_1_11 hk_sum_1_11f hk_sum_2_11 hk_sum_2_11f hk_p_0_11 hk_p_1_11 hk_p_2_11 hk_p_3_11 hk_p_4_11 hk_p_5_11 hk_p_6_11 hk_p_7_11 hk_p_8_11 hk_p_9_11
                   have hk_c_0_12 := S_12.out.cell 2 0 rfl rfl
                   have hk_c_1_12 := S_12.out.cell 2 1 rfl rfl
                   have hk_c_2_12 := S_12.out.cell 2 2 rfl rfl
                   have hk_c_3_12 := S_12.out.cell 2 3 rfl rfl
                   have hk_c_4_12 := S_12.out.cell 2 4 rfl rfl
                   have hk_sum_0_12 := S_12.out.cell 1 0 rfl rfl
                   have hk_sum_0_12f := S_12.out.froz 1 0 rfl rfl
                   have hk_sum_1_12 := S_12.out.cell 1 1 rfl rfl
                   have hk_sum_1_12f := S_12.out.froz 1 1 rfl rfl
                   have hk_sum_2_12 := S_12.out.cell 1 2 rfl rfl
                   have hk_sum_2_12f := S_12.out.froz 1 2 rfl rfl
                   go_wp2
                   have SX := Lib.hid (S_12.out.setAll 1 [.bool (S.add ZP).s, (.slice Aq nq cq), (.slice Bq mq dq)] rfl rfl)
                   exact ⟨⟨k + 1, S.add ZP, _, _, by omega, by first | rfl | go_num, okPa_step HV.out HZ.out HP.out, HA2.out, by rw [paSum_step HZ.out, HS.out]; rfl, SX.out.sub (by simp) (List.Sublist.cons_cons _ (List.nil_sublist _))⟩, by simp [intOf]; omega⟩
               · rw [Bool.not_eq_true] at h4
                 have HQX := Lib.hid h4
                 have HE := Lib.hid (show false = ok by rw [← HOK.out]; exact (okC_no (.inr (.inr (.inr (.inl (okPa_bad HZ.out (by rw [← Bool.not_eq_true, paOk_parts]; show ¬ ((0 ≤ ZA ∧ ZA < 10) ∧ ¬ ZA = N ∧ 0 < ZP.sgn ∧ ZQ.ok = true ∧ ZR.ok = true); exact fun h => by rw [h.2.2.2.1] at h4; exact absurd h4 (by decide)))))))).symm)
                 have mkS_10 : ∀ (w' : World) (cs' : List Chunk), St w w' [(wr.heap.size, [.int .i64 ZA, .bool ZP.s, (.slice a0 n0 c0), (.slice a1 n1 c1), .bool ZQ.s, (.slice a2 n2 c2), (.slice a3 n3 c3), .bool ZR.s, (.slice a4 n4 c4), (.slice a5 n5 c5)]), (w1.heap.size, [.bool S.s, (.slice As ns cs), (.slice Bs ms ds)]), (w.heap.size, [.int .i64 N, .bool T.s, t0, t1, (.slice (some ⟨g1, o1, none⟩) n c)])] cs' → w'.cell? ⟨wr.heap.size, 0, none⟩ = some (.int .i64 ZA) ∧ w'.cell? ⟨wr.heap.size, 1, none⟩ = some (.bool ZP.s) ∧ w'.cell? ⟨wr.heap.size, 2, none⟩ = some ((.slice a0 n0 c0)) ∧ w'.cell? ⟨wr.heap.size, 3, none⟩ = some ((.slice a1 n1 c1)) ∧ w'.cell? ⟨wr.heap.size, 4, none⟩ = some (.bool ZQ.s) ∧ w'.cell? ⟨wr.heap.size, 5, none⟩ = some ((.slice a2 n2 c2)) ∧ w'.cell? ⟨wr.heap.size, 6, none⟩ = some ((.slice a3 n3 c3)) ∧ w'.cell? ⟨wr.heap.size, 7, none⟩ = some (.bool ZR.s) ∧ w'.cell? ⟨wr.heap.size, 8, none⟩ = some ((.slice a4 n4 c4)) ∧ w'.cell? ⟨wr.heap.size, 9, none⟩ = some ((.slice a5 n5 c5)) ∧ w'.cell? ⟨w.heap.size, 0, none⟩ = some (.int .i64 N) ∧ w'.cell? ⟨w.heap.size, 1, none⟩ = some (.bool T.s) ∧ w'.cell? ⟨w.heap.size, 2, none⟩ = some (t0) ∧ w'.cell? ⟨w.heap.size, 3, none⟩ = some (t1) ∧ w'.cell? ⟨w.heap.size, 4, none⟩ = some ((.slice (some ⟨g1, o1, none⟩) n c)) ∧ w'.cell? ⟨g1, o1 + j * 10, none⟩ = some (.int .i64 YA) := fun w' cs' h => ⟨h.cell 0 0 rfl rfl, h.cell 0 1 rfl rfl, h.cell 0 2 rfl rfl, h.cell 0 3 rfl rfl, h.cell 0 4 rfl rfl, h.cell 0 5 rfl rfl, h.cell 0 6 rfl rfl, h.cell 0 7 rfl rfl, h.cell 0 8 rfl rfl, h.cell 0 9 rfl rfl, h.cell 2 0 rfl rfl, h.cell 2 1 rfl rfl, h.cell 2 2 rfl rfl, h.cell 2 3 rfl rfl, h.cell 2 4 rfl rfl, (h.below.cell (p := ⟨g1, o1 + j * 10, none⟩) hg1).trans y0⟩
                 refine wp_region_noPanic ?_
                 refine wp_region_held_drew (S := (fun w' => w'.cell? ⟨wr.heap.size, 0, none⟩ = some (.int .i64 ZA) ∧ w'.cell? ⟨wr.heap.size, 1, none⟩ = some (.bool ZP.s) ∧ w'.cell? ⟨wr.heap.size, 2, none⟩ = some ((.slice a0 n0 c0)) ∧ w'.cell? ⟨wr.heap.size, 3, none⟩ = some ((.slice a1 n1 c1)) ∧ w'.cell? ⟨wr.heap.size, 4, none⟩ = some (.bool ZQ.s) ∧ w'.cell? ⟨wr.heap.size, 5, none⟩ = some ((.slice a2 n2 c2)) ∧ w'.cell? ⟨wr.heap.size, 6, none⟩ = some ((.slice a3 n3 c3)) ∧ w'.cell? ⟨wr.heap.size, 7, none⟩ = some (.bool ZR.s) ∧ w'.cell? ⟨wr.heap.size, 8, none⟩ = some ((.slice a4 n4 c4)) ∧ w'.cell? ⟨wr.heap.size, 9, none⟩ = some ((.slice a5 n5 c5)) ∧ w'.cell? ⟨w.heap.size, 0, none⟩ = some (.int .i64 N) ∧ w'.cell? ⟨w.heap.size, 1, none⟩ = some (.bool T.s) ∧ w'.cell? ⟨w.heap.size, 2, none⟩ = some (t0) ∧ w'.cell? ⟨w.heap.size, 3, none⟩ = some (t1) ∧ w'.cell? ⟨w.heap.size, 4, none⟩ = some ((.slice (some ⟨g1, o1, none⟩) n c)) ∧ w'.cell? ⟨g1, o1 + j * 10, none⟩ = some (.int .i64 YA))) (by kernel_rfl) ?_ (fun hHeld => ?_)
                 · exact mkS_10 _ _ S_4.out.drew
                 refine tkH 0 ?_ ⟨some 15, .fieldAddr 63 (.tmp 5) 0, 0, "l08_star.go:8", #[], none⟩ ?_ ?_
                 rotate_left
                 · intro w9 hSw; (try dsimp only at hSw); go_simp; try with_reducible rfl
                 try simp only [pm, s0, sS]
                 refine tkH 1 ?_ ⟨some 16, .load 3 (.tmp 15), 3, "l08_star.go:8", #[⟨0, .data⟩], none⟩ ?_ ?_
                 rotate_left
                 · intro w9 hSw; (try dsimp only at hSw); go_simp; try with_reducible rfl
                 try simp only [pm, s0, sS]
                 refine wpAnyH_ready (rs := [2]) (by kernel_rfl) (by simp) ?_
                 refine AllReadyH.cons (o := ⟨some 17, .call { callee := .value (.func 52), args := #[.tmp 16], argTypes := #[3] }, 4, "l08_star.go:8", #[⟨1, .data⟩], none⟩) rfl (fun K hK => ?_) AllReadyH.nil
                 go_simp
                 go_at_call 52
                 refine (l06Node_any ZA _).mono ?_
                 rintro e w9 ⟨rfl, hw⟩
                 obtain rfl := hw.symm
                 rw [HND.out]
                 refine hK.out _ _ (mkS_10 _ _ S_4.out.drew) (fun hHeld2 => ?_)
                 clear hK K
                 try simp only [pm, s0, sS]
                 refine tkH 3 ?_ ⟨some 18, .unOp .not 4 (.tmp 17), 4, "l08_star.go:8", #[⟨2, .data⟩], none⟩ ?_ ?_
                 rotate_left
                 · intro w9 hSw; (try dsimp only at hSw); go_simp; try with_reducible rfl
                 try simp only [pm, s0, sS]
                 refine tkH 4 ?_ ⟨some 19, .move (.tmp 18), 4, "l08_star.go:8", #[⟨3, .data⟩, ⟨2, .chain⟩], none⟩ ?_ ?_
                 rotate_left
                 · intro w9 hSw; (try dsimp only at hSw); go_simp; try with_reducible rfl
                 try simp only [pm, s0, sS]
                 refine tkH 5 ?_ ⟨some 20, .fieldAddr 63 (.tmp 5) 0, 0, "l08_star.go:8", #[⟨4, .guard⟩], some (4, false)⟩ ?_ ?_
                 rotate_left
                 · intro w9 hSw; (try dsimp only at hSw); go_simp; try with_reducible rfl
                 try simp only [pm, s0, sS]
                 refine tkH 6 ?_ ⟨some 21, .load 3 (.tmp 20), 3, "l08_star.go:8", #[⟨5, .data⟩, ⟨4, .guard⟩], some (4, false)⟩ ?_ ?_
                 rotate_left
                 · intro w9 hSw; (try dsimp only at hSw); go_simp; try with_reducible rfl
                 try simp only [pm, s0, sS]
                 refine tkH 7 ?_ ⟨some 22, .fieldAddr 60 (.tmp 1) 0, 0, "l08_star.go:8", #[⟨4, .guard⟩], some (4, false)⟩ ?_ ?_
                 rotate_left
                 · intro w9 hSw; (try dsimp only at hSw); go_simp; try with_reducible rfl
                 try simp only [pm, s0, sS]
                 refine tkH 8 ?_ ⟨some 23, .load 3 (.tmp 22), 3, "l08_star.go:8", #[⟨7, .data⟩, ⟨4, .guard⟩], some (4, false)⟩ ?_ ?_
                 rotate_left
                 · intro w9 hSw; (try dsimp only at hSw); go_simp; try with_reducible rfl
                 try simp only [pm, s0, sS]
                 refine tkH 9 ?_ ⟨some 24, .binOp .eql 3 (.tmp 21) (.tmp 23) 3, 4, "l08_star.go:8", #[⟨6, .data⟩, ⟨8, .data⟩, ⟨4, .guard⟩], some (4, false)⟩ ?_ ?_
                 rotate_left
                 · intro w9 hSw; (try dsimp only at hSw); go_simp; try with_reducible rfl
                 try simp only [pm, s0, sS]
                 refine tkH 10 ?_ ⟨some 25, .pick (.tmp 19) (.const (Value.bool true)) (.tmp 24), 4, "l08_star.go:8", #[⟨4, .data⟩, ⟨9, .data⟩], none⟩ ?_ ?_
                 rotate_left
                 · intro w9 hSw; (try dsimp only at hSw); go_simp; try with_reducible rfl
                 try simp only [pm, s0, sS]
                 refine tkH 11 ?_ ⟨some 26, .move (.tmp 25), 4, "l08_star.go:8", #[⟨10, .data⟩, ⟨4, .chain⟩], none⟩ ?_ ?_
                 rotate_left
                 · intro w9 hSw; (try dsimp only at hSw); go_simp; try with_reducible rfl
                 try simp only [pm, s0, sS]
                 refine tkH 12 ?_ ⟨some 27, .move (.tmp 4), 3, "l08_star.go:8", #[⟨11, .guard⟩], some (11, false)⟩ ?_ ?_
                 rotate_left
                 · intro w9 hSw; (try dsimp only at hSw); go_simp; try with_reducible rfl
                 try simp only [pm, s0, sS]
                 refine tkH 13 ?_ ⟨some 28, .binOp .gtr 3 (.tmp 27) (.const (Value.int IntKind.i64 0)) 3, 4, "l08_star.go:8", #[⟨12, .data⟩, ⟨11, .guard⟩], some (11, false)⟩ ?_ ?_
                 rotate_left
                 · intro w9 hSw; (try dsimp only at hSw); go_simp; try with_reducible rfl
                 try simp only [pm, s0, sS]
                 refine tkH 14 ?_ ⟨some 29, .move (.tmp 28), 4, "l08_star.go:8", #[⟨13, .data⟩, ⟨11, .chain⟩, ⟨11, .guard⟩], some (11, false)⟩ ?_ ?_
                 rotate_left
                 · intro w9 hSw; (try dsimp only at hSw); go_simp; try with_reducible rfl
                 try simp only [pm, s0, sS]
                 refine tkH 15 ?_ ⟨some 30, .fieldAddr 60 (.tmp 1) 2, 0, "l08_star.go:8", #[⟨14, .guard⟩], some (14, true)⟩ ?_ ?_
                 rotate_left
                 · intro w9 hSw; (try dsimp only at hSw); go_simp; try with_reducible rfl
                 try simp only [pm, s0, sS]
                 refine tkH 16 ?_ ⟨some 31, .load 58 (.tmp 30), 58, "l08_star.go:8", #[⟨15, .data⟩, ⟨14, .guard⟩], some (14, true)⟩ ?_ ?_
                 rotate_left
                 · intro w9 hSw; (try dsimp only at hSw); go_simp; try with_reducible rfl
                 try simp only [pm, s0, sS]
                 refine tkH 17 ?_ ⟨some 32, .move (.tmp 4), 3, "l08_star.go:8", #[⟨14, .guard⟩], some (14, true)⟩ ?_ ?_
                 rotate_left
                 · intro w9 hSw; (try dsimp only at hSw); go_simp; try with_reducible rfl
                 try simp only [pm, s0, sS]
                 refine tkH 18 ?_ ⟨some 33, .binOp .sub 3 (.tmp 32) (.const (Value.int IntKind.i64 1)) 3, 3, "l08_star.go:8", #[⟨17, .data⟩, ⟨14, .guard⟩], some (14, true)⟩ ?_ ?_
                 rotate_left
                 · intro w9 hSw; (try dsimp only at hSw); go_simp; try with_reducible rfl
                 try simp only [pm, s0, sS]
                 refine tkH 19 ?_ ⟨some 34, .indexAddr 58 (.tmp 31) (.tmp 33), 0, "l08_star.go:8", #[⟨16, .data⟩, ⟨18, .data⟩, ⟨14, .guard⟩], some (14, true)⟩ ?_ ?_
                 rotate_left
                 · intro w9 hSw; (try dsimp only at hSw); go_simp; try with_reducible rfl
                 try simp only [pm, s0, sS]
                 refine tkH 20 ?_ ⟨some 35, .fieldAddr 63 (.tmp 34) 0, 0, "l08_star.go:8", #[⟨19, .data⟩, ⟨14, .guard⟩], some (14, true)⟩ ?_ ?_
                 rotate_left
                 · intro w9 hSw; (try dsimp only at hSw); go_simp; try with_reducible rfl
                 try simp only [pm, s0, sS]
                 refine tkH 21 ?_ ⟨some 36, .load 3 (.tmp 35), 3, "l08_star.go:8", #[⟨20, .data⟩, ⟨14, .guard⟩], some (14, true)⟩ ?_ ?_
                 rotate_left
                 · intro w9 hSw; (try dsimp only at hSw); go_simp; try with_reducible rfl
                 try simp only [pm, s0, sS]
                 refine tkH 22 ?_ ⟨some 37, .fieldAddr 63 (.tmp 5) 0, 0, "l08_star.go:8", #[⟨14, .guard⟩], some (14, true)⟩ ?_ ?_
                 rotate_left
                 · intro w9 hSw; (try dsimp only at hSw); go_simp; try with_reducible rfl
                 try simp only [pm, s0, sS]
                 refine tkH 23 ?_ ⟨some 38, .load 3 (.tmp 37), 3, "l08_star.go:8", #[⟨22, .data⟩, ⟨14, .guard⟩], some (14, true)⟩ ?_ ?_
                 rotate_left
                 · intro w9 hSw; (try dsimp only at hSw); go_simp; try with_reducible rfl
                 try simp only [pm, s0, sS]
                 refine tkH 24 ?_ ⟨some 39, .binOp .geq 3 (.tmp 36) (.tmp 38) 3, 4, "l08_star.go:8", #[⟨21, .data⟩, ⟨23, .data⟩, ⟨14, .guard⟩], some (14, true)⟩ ?_ ?_
                 rotate_left
                 · intro w9 hSw; (try dsimp only at hSw); go_simp; try with_reducible rfl
                 try simp only [pm, s0, sS]
                 refine tkH 25 ?_ ⟨some 40, .pick (.tmp 29) (.tmp 39) (.const (Value.bool false)), 4, "l08_star.go:8", #[⟨14, .data⟩, ⟨24, .data⟩, ⟨11, .guard⟩], some (11, false)⟩ ?_ ?_
                 rotate_left
                 · intro w9 hSw; (try dsimp only at hSw); go_simp; try with_reducible rfl
                 try simp only [pm, s0, sS]
                 refine tkH 26 ?_ ⟨some 41, .pick (.tmp 26) (.const (Value.bool true)) (.tmp 40), 4, "l08_star.go:8", #[⟨11, .data⟩, ⟨25, .data⟩], none⟩ ?_ ?_
                 rotate_left
                 · intro w9 hSw; (try dsimp only at hSw); go_simp; try with_reducible rfl
                 try simp only [pm, s0, sS]
                 refine tkH 27 ?_ ⟨some 42, .move (.tmp 41), 4, "l08_star.go:8", #[⟨26, .data⟩, ⟨14, .chain⟩], none⟩ ?_ ?_
                 rotate_left
                 · intro w9 hSw; (try dsimp only at hSw); go_simp; try with_reducible rfl
                 try simp only [pm, s0, sS]
                 refine tkH 28 ?_ ⟨some 43, .fieldAddr 63 (.tmp 5) 1, 0, "l08_star.go:8", #[⟨27, .guard⟩], some (27, false)⟩ ?_ ?_
                 rotate_left
                 · intro w9 hSw; (try dsimp only at hSw); go_simp; try with_reducible rfl
                 try simp only [pm, s0, sS]
                 refine tkH 29 ?_ ⟨some 44, .load 37 (.tmp 43), 37, "l08_star.go:8", #[⟨28, .data⟩, ⟨27, .guard⟩], some (27, false)⟩ ?_ ?_
                 rotate_left
                 · intro w9 hSw; (try dsimp only at hSw); go_simp; try with_reducible rfl
                 try simp only [pm, s0, sS]
                 refine wpAnyH_ready (rs := [30]) (by kernel_rfl) (by simp) ?_
                 refine AllReadyH.cons (o := ⟨some 45, .call { callee := .value (.func 53), args := #[.tmp 44], argTypes := #[37] }, 3, "l08_star.go:8", #[⟨29, .data⟩, ⟨27, .chain⟩, ⟨27, .guard⟩], some (27, false)⟩) rfl (fun K hK => ?_) AllReadyH.nil
                 go_simp
                 go_at_call 53
                 refine (ratSign_s ZP (.slice a0 n0 c0) (.slice a1 n1 c1) _ (HR.out.below S_4.out.drew.below (ZP, .slice a0 n0 c0, .slice a1 n1 c1) (by simp))).mono ?_
                 rintro e w5 ⟨rfl, hb⟩
                 rw [HRG.out] at ⊢
                 have S_10 := Lib.hid (S_4.out.drew.call hb)
                 clear S_4 hb
                 refine hK.out _ _ (mkS_10 _ _ S_10.out) (fun hHeld30 => ?_)
                 clear hK K
                 try simp only [pm, s0, sS]
                 refine tkH 31 ?_ ⟨some 46, .binOp .leq 3 (.tmp 45) (.const (Value.int IntKind.i64 0)) 3, 4, "l08_star.go:8", #[⟨30, .data⟩, ⟨27, .guard⟩], some (27, false)⟩ ?_ ?_
                 rotate_left
                 · intro w9 hSw; (try dsimp only at hSw); go_simp; try with_reducible rfl
                 try simp only [pm, s0, sS]
                 refine tkH 32 ?_ ⟨some 47, .pick (.tmp 42) (.const (Value.bool true)) (.tmp 46), 4, "l08_star.go:8", #[⟨27, .data⟩, ⟨31, .data⟩], none⟩ ?_ ?_
                 rotate_left
                 · intro w9 hSw; (try dsimp only at hSw); go_simp; try with_reducible rfl
                 try simp only [pm, s0, sS]
                 refine tkH 33 ?_ ⟨some 48, .move (.tmp 47), 4, "l08_star.go:8", #[⟨32, .data⟩, ⟨30, .chain⟩], none⟩ ?_ ?_
                 rotate_left
                 · intro w9 hSw; (try dsimp only at hSw); go_simp; try with_reducible rfl
                 try simp only [pm, s0, sS]
                 refine tkH 34 ?_ ⟨some 49, .fieldAddr 63 (.tmp 5) 2, 0, "l08_star.go:8", #[⟨33, .guard⟩], some (33, false)⟩ ?_ ?_
                 rotate_left
                 · intro w9 hSw; (try dsimp only at hSw); go_simp; try with_reducible rfl
                 try simp only [pm, s0, sS]
                 refine tkH 35 ?_ ⟨some 50, .load 37 (.tmp 49), 37, "l08_star.go:8", #[⟨34, .data⟩, ⟨33, .guard⟩], some (33, false)⟩ ?_ ?_
                 rotate_left
                 · intro w9 hSw; (try dsimp only at hSw); go_simp; try with_reducible rfl
                 try simp only [pm, s0, sS]
                 refine wpAnyH_ready (rs := [36]) (by kernel_rfl) (by simp) ?_
                 refine AllReadyH.cons (o := ⟨some 51, .call { callee := .value (.func 35), args := #[.tmp 50], argTypes := #[37] }, 4, "l08_star.go:8", #[⟨35, .data⟩, ⟨33, .chain⟩, ⟨33, .guard⟩], some (33, false)⟩) rfl (fun K hK => ?_) AllReadyH.nil
                 go_simp
                 go_at_call 35
                 refine (ratOk_s ZQ (.slice a2 n2 c2) (.slice a3 n3 c3) _ (HR.out.below S_10.out.below (ZQ, .slice a2 n2 c2, .slice a3 n3 c3) (by simp))).mono ?_
                 rintro e w6 ⟨rfl, hb⟩
                 rw [HQX.out] at ⊢
                 have S_11 := Lib.hid (S_10.out.call hb)
                 clear S_10 hb
                 refine hK.out _ _ (mkS_10 _ _ S_11.out) (fun hHeld36 => ?_)
                 clear hK K
                 try simp only [pm, s0, sS]
                 refine tkH 37 ?_ ⟨some 52, .unOp .not 4 (.tmp 51), 4, "l08_star.go:8", #[⟨36, .data⟩, ⟨33, .guard⟩], some (33, false)⟩ ?_ ?_
                 rotate_left
                 · intro w9 hSw; (try dsimp only at hSw); go_simp; try with_reducible rfl
                 try simp only [pm, s0, sS]
                 refine tkH 38 ?_ ⟨some 53, .pick (.tmp 48) (.const (Value.bool true)) (.tmp 52), 4, "l08_star.go:8", #[⟨33, .data⟩, ⟨37, .data⟩], none⟩ ?_ ?_
                 rotate_left
                 · intro w9 hSw; (try dsimp only at hSw); go_simp; try with_reducible rfl
                 try simp only [pm, s0, sS]
                 refine tkH 39 ?_ ⟨some 54, .move (.tmp 53), 4, "l08_star.go:8", #[⟨38, .data⟩, ⟨36, .chain⟩], none⟩ ?_ ?_
                 rotate_left
                 · intro w9 hSw; (try dsimp only at hSw); go_simp; try with_reducible rfl
                 try simp only [pm, s0, sS]
                 refine tkN 40 ⟨some 55, .fieldAddr 63 (.tmp 5) 3, 0, "l08_star.go:8", #[⟨39, .guard⟩], some (39, false)⟩ ?_
                 try simp only [pm, s0, sS]
                 refine tkN 41 ⟨some 56, .load 37 (.tmp 55), 37, "l08_star.go:8", #[⟨40, .data⟩, ⟨39, .guard⟩], some (39, false)⟩ ?_
                 try simp only [pm, s0, sS]
                 refine wpAnyH_ready (rs := [42]) (by kernel_rfl) (by simp) ?_
                 refine AllReadyH.cons (o := ⟨some 57, .call { callee := .value (.func 35), args := #[.tmp 56], argTypes := #[37] }, 4, "l08_star.go:8", #[⟨41, .data⟩, ⟨39, .chain⟩, ⟨39, .guard⟩], some (39, false)⟩) rfl (fun K hK => ?_) AllReadyH.nil
                 go_simp
                 refine hK.out _ _ (mkS_10 _ _ S_11.out) (fun hHeld42 => ?_)
                 clear hK K
                 try simp only [pm, s0, sS]
                 refine tkN 43 ⟨some 58, .unOp .not 4 (.tmp 57), 4, "l08_star.go:8", #[⟨42, .data⟩, ⟨39, .guard⟩], some (39, false)⟩ ?_
                 try simp only [pm, s0, sS]
                 refine tkH 44 ?_ ⟨some 59, .pick (.tmp 54) (.const (Value.bool true)) (.tmp 58), 4, "l08_star.go:8", #[⟨39, .data⟩, ⟨43, .data⟩], none⟩ ?_ ?_
                 rotate_left
                 · intro w9 hSw; (try dsimp only at hSw); go_simp; try with_reducible rfl
                 try simp only [pm, s0, sS]
                 refine wpAnyH_done (by kernel_rfl) ?_ _
                 refine NoPanic.normal ?_
                 go_wp2
                 go_ret
                 exact ⟨ret_bool HE.out, S_11.out.below⟩
             · have HE := Lib.hid (show false = ok by rw [← HOK.out]; exact (okC_no (.inr (.inr (.inr (.inl (okPa_bad HZ.out (by rw [← Bool.not_eq_true, paOk_parts]; show ¬ ((0 ≤ ZA ∧ ZA < 10) ∧ ¬ ZA = N ∧ 0 < ZP.sgn ∧ ZQ.ok = true ∧ ZR.ok = true); exact fun h => h3 (HRG.out ▸ h.2.2.1)))))))).symm)
               have h3b : r ≤ 0 := by omega
               have mkS_11 : ∀ (w' : World) (cs' : List Chunk), St w w' [(wr.heap.size, [.int .i64 ZA, .bool ZP.s, (.slice a0 n0 c0), (.slice a1 n1 c1), .bool ZQ.s, (.slice a2 n2 c2), (.slice a3 n3 c3), .bool ZR.s, (.slice a4 n4 c4), (.slice a5 n5 c5)]), (w1.heap.size, [.bool S.s, (.slice As ns cs), (.slice Bs ms ds)]), (w.heap.size, [.int .i64 N, .bool T.s, t0, t1, (.slice (some ⟨g1, o1, none⟩) n c)])] cs' → w'.cell? ⟨wr.heap.size, 0, none⟩ = some (.int .i64 ZA) ∧ w'.cell? ⟨wr.heap.size, 1, none⟩ = some (.bool ZP.s) ∧ w'.cell? ⟨wr.heap.size, 2, none⟩ = some ((.slice a0 n0 c0)) ∧ w'.cell? ⟨wr.heap.size, 3, none⟩ = some ((.slice a1 n1 c1)) ∧ w'.cell? ⟨wr.heap.size, 4, none⟩ = some (.bool ZQ.s) ∧ w'.cell? ⟨wr.heap.size, 5, none⟩ = some ((.slice a2 n2 c2)) ∧ w'.cell? ⟨wr.heap.size, 6, none⟩ = some ((.slice a3 n3 c3)) ∧ w'.cell? ⟨wr.heap.size, 7, none⟩ = some (.bool ZR.s) ∧ w'.cell? ⟨wr.heap.size, 8, none⟩ = some ((.slice a4 n4 c4)) ∧ w'.cell? ⟨wr.heap.size, 9, none⟩ = some ((.slice a5 n5 c5)) ∧ w'.cell? ⟨w.heap.size, 0, none⟩ = some (.int .i64 N) ∧ w'.cell? ⟨w.heap.size, 1, none⟩ = some (.bool T.s) ∧ w'.cell? ⟨w.heap.size, 2, none⟩ = some (t0) ∧ w'.cell? ⟨w.heap.size, 3, none⟩ = some (t1) ∧ w'.cell? ⟨w.heap.size, 4, none⟩ = some ((.slice (some ⟨g1, o1, none⟩) n c)) ∧ w'.cell? ⟨g1, o1 + j * 10, none⟩ = some (.int .i64 YA) := fun w' cs' h => ⟨h.cell 0 0 rfl rfl, h.cell 0 1 rfl rfl, h.cell 0 2 rfl rfl, h.cell 0 3 rfl rfl, h.cell 0 4 rfl rfl, h.cell 0 5 rfl rfl, h.cell 0 6 rfl rfl, h.cell 0 7 rfl rfl, h.cell 0 8 rfl rfl, h.cell 0 9 rfl rfl, h.cell 2 0 rfl rfl, h.cell 2 1 rfl rfl, h.cell 2 2 rfl rfl, h.cell 2 3 rfl rfl, h.cell 2 4 rfl rfl, (h.below.cell (p := ⟨g1, o1 + j * 10, none⟩) hg1).trans y0⟩
               refine wp_region_noPanic ?_
               refine wp_region_held_drew (S := (fun w' => w'.cell? ⟨wr.heap.size, 0, none⟩ = some (.int .i64 ZA) ∧ w'.cell? ⟨wr.heap.size, 1, none⟩ = some (.bool ZP.s) ∧ w'.cell? ⟨wr.heap.size, 2, none⟩ = some ((.slice a0 n0 c0)) ∧ w'.cell? ⟨wr.heap.size, 3, none⟩ = some ((.slice a1 n1 c1)) ∧ w'.cell? ⟨wr.heap.size, 4, none⟩ = some (.bool ZQ.s) ∧ w'.cell? ⟨wr.heap.size, 5, none⟩ = some ((.slice a2 n2 c2)) ∧ w'.cell? ⟨wr.heap.size, 6, none⟩ = some ((.slice a3 n3 c3)) ∧ w'.cell? ⟨wr.heap.size, 7, none⟩ = some (.bool ZR.s) ∧ w'.cell? ⟨wr.heap.size, 8, none⟩ = some ((.slice a4 n4 c4)) ∧ w'.cell? ⟨wr.heap.size, 9, none⟩ = some ((.slice a5 n5 c5)) ∧ w'.cell? ⟨w.heap.size, 0, none⟩ = some (.int .i64 N) ∧ w'.cell? ⟨w.heap.size, 1, none⟩ = some (.bool T.s) ∧ w'.cell? ⟨w.heap.size, 2, none⟩ = some (t0) ∧ w'.cell? ⟨w.heap.size, 3, none⟩ = some (t1) ∧ w'.cell? ⟨w.heap.size, 4, none⟩ = some ((.slice (some ⟨g1, o1, none⟩) n c)) ∧ w'.cell? ⟨g1, o1 + j * 10, none⟩ = some (.int .i64 YA))) (by kernel_rfl) ?_ (fun hHeld => ?_)
               · exact mkS_11 _ _ S_4.out.drew
               refine tkH 0 ?_ ⟨some 15, .fieldAddr 63 (.tmp 5) 0, 0, "l08_star.go:8", #[], none⟩ ?_ ?_
               rotate_left
               · intro w9 hSw; (try dsimp only at hSw); go_simp; try with_reducible rfl
               try simp only [pm, s0, sS]
               refine tkH 1 ?_ ⟨some 16, .load 3 (.tmp 15), 3, "l08_star.go:8", #[⟨0, .data⟩], none⟩ ?_ ?_
               rotate_left
               · intro w9 hSw; (try dsimp only at hSw); go_simp; try with_reducible rfl
               try simp only [pm, s0, sS]
               refine wpAnyH_ready (rs := [2]) (by kernel_rfl) (by simp) ?_
               refine AllReadyH.cons (o := ⟨some 17, .call { callee := .value (.func 52), args := #[.tmp 16], argTypes := #[3] }, 4, "l08_star.go:8", #[⟨1, .data⟩], none⟩) rfl (fun K hK => ?_) AllReadyH.nil
               go_simp
               go_at_call 52
               refine (l06Node_any ZA _).mono ?_
               rintro e w9 ⟨rfl, hw⟩
               obtain rfl := hw.symm
               rw [HND.out]
               refine hK.out _ _ (mkS_11 _ _ S_4.out.drew) (fun hHeld2 => ?_)
               clear hK K
               try simp only [pm, s0, sS]
               refine tkH 3 ?_ ⟨some 18, .unOp .not 4 (.tmp 17), 4, "l08_star.go:8", #[⟨2, .data⟩], none⟩ ?_ ?_
               rotate_left
               · intro w9 hSw; (try dsimp only at hSw); go_simp; try with_reducible rfl
               try simp only [pm, s0, sS]
               refine tkH 4 ?_ ⟨some 19, .move (.tmp 18), 4, "l08_star.go:8", #[⟨3, .data⟩, ⟨2, .chain⟩], none⟩ ?_ ?_
               rotate_left
               · intro w9 hSw; (try dsimp only at hSw); go_simp; try with_reducible rfl
               try simp only [pm, s0, sS]
               refine tkH 5 ?_ ⟨some 20, .fieldAddr 63 (.tmp 5) 0, 0, "l08_star.go:8", #[⟨4, .guard⟩], some (4, false)⟩ ?_ ?_
               rotate_left
               · intro w9 hSw; (try dsimp only at hSw); go_simp; try with_reducible rfl
               try simp only [pm, s0, sS]
               refine tkH 6 ?_ ⟨some 21, .load 3 (.tmp 20), 3, "l08_star.go:8", #[⟨5, .data⟩, ⟨4, .guard⟩], some (4, false)⟩ ?_ ?_
               rotate_left
               · intro w9 hSw; (try dsimp only at hSw); go_simp; try with_reducible rfl
               try simp only [pm, s0, sS]
               refine tkH 7 ?_ ⟨some 22, .fieldAddr 60 (.tmp 1) 0, 0, "l08_star.go:8", #[⟨4, .guard⟩], some (4, false)⟩ ?_ ?_
               rotate_left
               · intro w9 hSw; (try dsimp only at hSw); go_simp; try with_reducible rfl
               try simp only [pm, s0, sS]
               refine tkH 8 ?_ ⟨some 23, .load 3 (.tmp 22), 3, "l08_star.go:8", #[⟨7, .data⟩, ⟨4, .guard⟩], some (4, false)⟩ ?_ ?_
               rotate_left
               · intro w9 hSw; (try dsimp only at hSw); go_simp; try with_reducible rfl
               try simp only [pm, s0, sS]
               refine tkH 9 ?_ ⟨some 24, .binOp .eql 3 (.tmp 21) (.tmp 23) 3, 4, "l08_star.go:8", #[⟨6, .data⟩, ⟨8, .data⟩, ⟨4, .guard⟩], some (4, false)⟩ ?_ ?_
               rotate_left
               · intro w9 hSw; (try dsimp only at hSw); go_simp; try with_reducible rfl
               try simp only [pm, s0, sS]
               refine tkH 10 ?_ ⟨some 25, .pick (.tmp 19) (.const (Value.bool true)) (.tmp 24), 4, "l08_star.go:8", #[⟨4, .data⟩, ⟨9, .data⟩], none⟩ ?_ ?_
               rotate_left
               · intro w9 hSw; (try dsimp only at hSw); go_simp; try with_reducible rfl
               try simp only [pm, s0, sS]
               refine tkH 11 ?_ ⟨some 26, .move (.tmp 25), 4, "l08_star.go:8", #[⟨10, .data⟩, ⟨4, .chain⟩], none⟩ ?_ ?_
               rotate_left
               · intro w9 hSw; (try dsimp only at hSw); go_simp; try with_reducible rfl
               try simp only [pm, s0, sS]
               refine tkH 12 ?_ ⟨some 27, .move (.tmp 4), 3, "l08_star.go:8", #[⟨11, .guard⟩], some (11, false)⟩ ?_ ?_
               rotate_left
               · intro w9 hSw; (try dsimp only at hSw); go_simp; try with_reducible rfl
               try simp only [pm, s0, sS]
               refine tkH 13 ?_ ⟨some 28, .binOp .gtr 3 (.tmp 27) (.const (Value.int IntKind.i64 0)) 3, 4, "l08_star.go:8", #[⟨12, .data⟩, ⟨11, .guard⟩], some (11, false)⟩ ?_ ?_
               rotate_left
               · intro w9 hSw; (try dsimp only at hSw); go_simp; try with_reducible rfl
               try simp only [pm, s0, sS]
               refine tkH 14 ?_ ⟨some 29, .move (.tmp 28), 4, "l08_star.go:8", #[⟨13, .data⟩, ⟨11, .chain⟩, ⟨11, .guard⟩], some (11, false)⟩ ?_ ?_
               rotate_left
               · intro w9 hSw; (try dsimp only at hSw); go_simp; try with_reducible rfl
               try simp only [pm, s0, sS]
               refine tkH 15 ?_ ⟨some 30, .fieldAddr 60 (.tmp 1) 2, 0, "l08_star.go:8", #[⟨14, .guard⟩], some (14, true)⟩ ?_ ?_
               rotate_left
               · intro w9 hSw; (try dsimp only at hSw); go_simp; try with_reducible rfl
               try simp only [pm, s0, sS]
               refine tkH 16 ?_ ⟨some 31, .load 58 (.tmp 30), 58, "l08_star.go:8", #[⟨15, .data⟩, ⟨14, .guard⟩], some (14, true)⟩ ?_ ?_
               rotate_left
               · intro w9 hSw; (try dsimp only at hSw); go_simp; try with_reducible rfl
               try simp only [pm, s0, sS]
               refine tkH 17 ?_ ⟨some 32, .move (.tmp 4), 3, "l08_star.go:8", #[⟨14, .guard⟩], some (14, true)⟩ ?_ ?_
               rotate_left
               · intro w9 hSw; (try dsimp only at hSw); go_simp; try with_reducible rfl
               try simp only [pm, s0, sS]
               refine tkH 18 ?_ ⟨some 33, .binOp .sub 3 (.tmp 32) (.const (Value.int IntKind.i64 1)) 3, 3, "l08_star.go:8", #[⟨17, .data⟩, ⟨14, .guard⟩], some (14, true)⟩ ?_ ?_
               rotate_left
               · intro w9 hSw; (try dsimp only at hSw); go_simp; try with_reducible rfl
               try simp only [pm, s0, sS]
               refine tkH 19 ?_ ⟨some 34, .indexAddr 58 (.tmp 31) (.tmp 33), 0, "l08_star.go:8", #[⟨16, .data⟩, ⟨18, .data⟩, ⟨14, .guard⟩], some (14, true)⟩ ?_ ?_
               rotate_left
               · intro w9 hSw; (try dsimp only at hSw); go_simp; try with_reducible rfl
               try simp only [pm, s0, sS]
               refine tkH 20 ?_ ⟨some 35, .fieldAddr 63 (.tmp 34) 0, 0, "l08_star.go:8", #[⟨19, .data⟩, ⟨14, .guard⟩], some (14, true)⟩ ?_ ?_
               rotate_left
               · intro w9 hSw; (try dsimp only at hSw); go_simp; try with_reducible rfl
               try simp only [pm, s0, sS]
               refine tkH 21 ?_ ⟨some 36, .load 3 (.tmp 35), 3, "l08_star.go:8", #[⟨20, .data⟩, ⟨14, .guard⟩], some (14, true)⟩ ?_ ?_
               rotate_left
               · intro w9 hSw; (try dsimp only at hSw); go_simp; try with_reducible rfl
               try simp only [pm, s0, sS]
               refine tkH 22 ?_ ⟨some 37, .fieldAddr 63 (.tmp 5) 0, 0, "l08_star.go:8", #[⟨14, .guard⟩], some (14, true)⟩ ?_ ?_
               rotate_left
               · intro w9 hSw; (try dsimp only at hSw); go_simp; try with_reducible rfl
               try simp only [pm, s0, sS]
               refine tkH 23 ?_ ⟨some 38, .load 3 (.tmp 37), 3, "l08_star.go:8", #[⟨22, .data⟩, ⟨14, .guard⟩], some (14, true)⟩ ?_ ?_
               rotate_left
               · intro w9 hSw; (try dsimp only at hSw); go_simp; try with_reducible rfl
               try simp only [pm, s0, sS]
               refine tkH 24 ?_ ⟨some 39, .binOp .geq 3 (.tmp 36) (.tmp 38) 3, 4, "l08_star.go:8", #[⟨21, .data⟩, ⟨23, .data⟩, ⟨14, .guard⟩], some (14, true)⟩ ?_ ?_
               rotate_left
               · intro w9 hSw; (try dsimp only at hSw); go_simp; try with_reducible rfl
               try simp only [pm, s0, sS]
               refine tkH 25 ?_ ⟨some 40, .pick (.tmp 29) (.tmp 39) (.const (Value.bool false)), 4, "l08_star.go:8", #[⟨14, .data⟩, ⟨24, .data⟩, ⟨11, .guard⟩], some (11, false)⟩ ?_ ?_
               rotate_left
               · intro w9 hSw; (try dsimp only at hSw); go_simp; try with_reducible rfl
               try simp only [pm, s0, sS]
               refine tkH 26 ?_ ⟨some 41, .pick (.tmp 26) (.const (Value.bool true)) (.tmp 40), 4, "l08_star.go:8", #[⟨11, .data⟩, ⟨25, .data⟩], none⟩ ?_ ?_
               rotate_left
               · intro w9 hSw; (try dsimp only at hSw); go_simp; try with_reducible rfl
               try simp only [pm, s0, sS]
               refine tkH 27 ?_ ⟨some 42, .move (.tmp 41), 4, "l08_star.go:8", #[⟨26, .data⟩, ⟨14, .chain⟩], none⟩ ?_ ?_
               rotate_left
               · intro w9 hSw; (try dsimp only at hSw); go_simp; try with_reducible rfl
               try simp only [pm, s0, sS]
               refine tkH 28 ?_ ⟨some 43, .fieldAddr 63 (.tmp 5) 1, 0, "l08_star.go:8", #[⟨27, .guard⟩], some (27, false)⟩ ?_ ?_
               rotate_left
               · intro w9 hSw; (try dsimp only at hSw); go_simp; try with_reducible rfl
               try simp only [pm, s0, sS]
               refine tkH 29 ?_ ⟨some 44, .load 37 (.tmp 43), 37, "l08_star.go:8", #[⟨28, .data⟩, ⟨27, .guard⟩], some (27, false)⟩ ?_ ?_
               rotate_left
               · intro w9 hSw; (try dsimp only at hSw); go_simp; try with_reducible rfl
               try simp only [pm, s0, sS]
               refine wpAnyH_ready (rs := [30]) (by kernel_rfl) (by simp) ?_
               refine AllReadyH.cons (o := ⟨some 45, .call { callee := .value (.func 53), args := #[.tmp 44], argTypes := #[37] }, 3, "l08_star.go:8", #[⟨29, .data⟩, ⟨27, .chain⟩, ⟨27, .guard⟩], some (27, false)⟩) rfl (fun K hK => ?_) AllReadyH.nil
               go_simp
               go_at_call 53
               refine (ratSign_s ZP (.slice a0 n0 c0) (.slice a1 n1 c1) _ (HR.out.below S_4.out.drew.below (ZP, .slice a0 n0 c0, .slice a1 n1 c1) (by simp))).mono ?_
               rintro e w5 ⟨rfl, hb⟩
               rw [HRG.out] at ⊢
               have S_11 := Lib.hid (S_4.out.drew.call hb)
               clear S_4 hb
               refine hK.out _ _ (mkS_11 _ _ S_11.out) (fun hHeld30 => ?_)
               clear hK K
               try simp only [pm, s0, sS]
               refine tkH 31 ?_ ⟨some 46, .binOp .leq 3 (.tmp 45) (.const (Value.int IntKind.i64 0)) 3, 4, "l08_star.go:8", #[⟨30, .data⟩, ⟨27, .guard⟩], some (27, false)⟩ ?_ ?_
               rotate_left
               · intro w9 hSw; (try dsimp only at hSw); go_simp; try with_reducible rfl
               try simp only [pm, s0, sS]
               refine tkH 32 ?_ ⟨some 47, .pick (.tmp 42) (.const (Value.bool true)) (.tmp 46), 4, "l08_star.go:8", #[⟨27, .data⟩, ⟨31, .data⟩], none⟩ ?_ ?_
               rotate_left
               · intro w9 hSw; (try dsimp only at hSw); go_simp; try with_reducible rfl
               try simp only [pm, s0, sS]
               refine tkH 33 ?_ ⟨some 48, .move (.tmp 47), 4, "l08_star.go:8", #[⟨32, .data⟩, ⟨30, .chain⟩], none⟩ ?_ ?_
               rotate_left
               · intro w9 hSw; (try dsimp only at hSw); go_simp; try with_reducible rfl
               try simp only [pm, s0, sS]
               refine tkN 34 ⟨some 49, .fieldAddr 63 (.tmp 5) 2, 0, "l08_star.go:8", #[⟨33, .guard⟩], some (33, false)⟩ ?_
               try simp only [pm, s0, sS]
               refine tkN 35 ⟨some 50, .load 37 (.tmp 49), 37, "l08_star.go:8", #[⟨34, .data⟩, ⟨33, .guard⟩], some (33, false)⟩ ?_
               try simp only [pm, s0, sS]
               refine wpAnyH_ready (rs := [36]) (by kernel_rfl) (by simp) ?_
               refine AllReadyH.cons (o := ⟨some 51, .call { callee := .value (.func 35), args := #[.tmp 50], argTypes := #[37] }, 4, "l08_star.go:8", #[⟨35, .data⟩, ⟨33, .chain⟩, ⟨33, .guard⟩], some (33, false)⟩) rfl (fun K hK => ?_) AllReadyH.nil
               go_simp
               refine hK.out _ _ (mkS_11 _ _ S_11.out) (fun hHeld36 => ?_)
               clear hK K
               try simp only [pm, s0, sS]
               refine tkN 37 ⟨some 52, .unOp .not 4 (.tmp 51), 4, "l08_star.go:8", #[⟨36, .data⟩, ⟨33, .guard⟩], some (33, false)⟩ ?_
               try simp only [pm, s0, sS]
               refine tkH 38 ?_ ⟨some 53, .pick (.tmp 48) (.const (Value.bool true)) (.tmp 52), 4, "l08_star.go:8", #[⟨33, .data⟩, ⟨37, .data⟩], none⟩ ?_ ?_
               rotate_left
               · intro w9 hSw; (try dsimp only at hSw); go_simp; try with_reducible rfl
               try simp only [pm, s0, sS]
               refine tkH 39 ?_ ⟨some 54, .move (.tmp 53), 4, "l08_star.go:8", #[⟨38, .data⟩, ⟨36, .chain⟩], none⟩ ?_ ?_
               rotate_left
               · intro w9 hSw; (try dsimp only at hSw); go_simp; try with_reducible rfl
               try simp only [pm, s0, sS]
               refine tkN 40 ⟨some 55, .fieldAddr 63 (.tmp 5) 3, 0, "l08_star.go:8", #[⟨39, .guard⟩], some (39, false)⟩ ?_
               try simp only [pm, s0, sS]
               refine tkN 41 ⟨some 56, .load 37 (.tmp 55), 37, "l08_star.go:8", #[⟨40, .data⟩, ⟨39, .guard⟩], some (39, false)⟩ ?_
               try simp only [pm, s0, sS]
               refine wpAnyH_ready (rs := [42]) (by kernel_rfl) (by simp) ?_
               refine AllReadyH.cons (o := ⟨some 57, .call { callee := .value (.func 35), args := #[.tmp 56], argTypes := #[37] }, 4, "l08_star.go:8", #[⟨41, .data⟩, ⟨39, .chain⟩, ⟨39, .guard⟩], some (39, false)⟩) rfl (fun K hK => ?_) AllReadyH.nil
               go_simp
               refine hK.out _ _ (mkS_11 _ _ S_11.out) (fun hHeld42 => ?_)
               clear hK K
               try simp only [pm, s0, sS]
               refine tkN 43 ⟨some 58, .unOp .not 4 (.tmp 57), 4, "l08_star.go:8", #[⟨42, .data⟩, ⟨39, .guard⟩], some (39, false)⟩ ?_
               try simp only [pm, s0, sS]
               refine tkH 44 ?_ ⟨some 59, .pick (.tmp 54) (.const (Value.bool true)) (.tmp 58), 4, "l08_star.go:8", #[⟨39, .data⟩, ⟨43, .data⟩], none⟩ ?_ ?_
               rotate_left
               · intro w9 hSw; (try dsimp only at hSw); go_simp; try with_reducible rfl
               try simp only [pm, s0, sS]
               refine wpAnyH_done (by kernel_rfl) ?_ _
               refine NoPanic.normal ?_
               go_wp2
               go_ret
               exact ⟨ret_bool HE.out, S_11.out.below⟩
           · have HE := Lib.hid (show false = ok by rw [← HOK.out]; exact (okC_no (.inr (.inr (.inl (paAsc_bad HY.out HZJ.out (show ¬ YA < ZA from h6)))))).symm)
             have h6b : ZA ≤ YA := by omega
             have mkS_12 : ∀ (w' : World) (cs' : List Chunk), St w w' [(wr.heap.size, [.int .i64 ZA, .bool ZP.s, (.slice a0 n0 c0), (.slice a1 n1 c1), .bool ZQ.s, (.slice a2 n2 c2), (.slice a3 n3 c3), .bool ZR.s, (.slice a4 n4 c4), (.slice a5 n5 c5)]), (w1.heap.size, [.bool S.s, (.slice As ns cs), (.slice Bs ms ds)]), (w.heap.size, [.int .i64 N, .bool T.s, t0, t1, (.slice (some ⟨g1, o1, none⟩) n c)])] cs' → w'.cell? ⟨wr.heap.size, 0, none⟩ = some (.int .i64 ZA) ∧ w'.cell? ⟨wr.heap.size, 1, none⟩ = some (.bool ZP.s) ∧ w'.cell? ⟨wr.heap.size, 2, none⟩ = some ((.slice a0 n0 c0)) ∧ w'.cell? ⟨wr.heap.size, 3, none⟩ = some ((.slice a1 n1 c1)) ∧ w'.cell? ⟨wr.heap.size, 4, none⟩ = some (.bool ZQ.s) ∧ w'.cell? ⟨wr.heap.size, 5, none⟩ = some ((.slice a2 n2 c2)) ∧ w'.cell? ⟨wr.heap.size, 6, none⟩ = some ((.slice a3 n3 c3)) ∧ w'.cell? ⟨wr.heap.size, 7, none⟩ = some (.bool ZR.s) ∧ w'.cell? ⟨wr.heap.size, 8, none⟩ = some ((.slice a4 n4 c4)) ∧ w'.cell? ⟨wr.heap.size, 9, none⟩ = some ((.slice a5 n5 c5)) ∧ w'.cell? ⟨w.heap.size, 0, none⟩ = some (.int .i64 N) ∧ w'.cell? ⟨w.heap.size, 1, none⟩ = some (.bool T.s) ∧ w'.cell? ⟨w.heap.size, 2, none⟩ = some (t0) ∧ w'.cell? ⟨w.heap.size, 3, none⟩ = some (t1) ∧ w'.cell? ⟨w.heap.size, 4, none⟩ = some ((.slice (some ⟨g1, o1, none⟩) n c)) ∧ w'.cell? ⟨g1, o1 + j * 10, none⟩ = some (.int .i64 YA) := fun w' cs' h => ⟨h.cell 0 0 rfl rfl, h.cell 0 1 rfl rfl, h.cell 0 2 rfl rfl, h.cell 0 3 rfl rfl, h.cell 0 4 rfl rfl, h.cell 0 5 rfl rfl, h.cell 0 6 rfl rfl, h.cell 0 7 rfl rfl, h.cell 0 8 rfl rfl, h.cell 0 9 rfl rfl, h.cell 2 0 rfl rfl, h.cell 2 1 rfl rfl, h.cell 2 2 rfl rfl, h.cell 2 3 rfl rfl, h.cell 2 4 rfl rfl, (h.below.cell (p := ⟨g1, o1 + j * 10, none⟩) hg1).trans y0⟩
             refine wp_region_noPanic ?_
             refine wp_region_held_drew (S := (fun w' => w'.cell? ⟨wr.heap.size, 0, none⟩ = some (.int .i64 ZA) ∧ w'.cell? ⟨wr.heap.size, 1, none⟩ = some (.bool ZP.s) ∧ w'.cell? ⟨wr.heap.size, 2, none⟩ = some ((.slice a0 n0 c0)) ∧ w'.cell? ⟨wr.heap.size, 3, none⟩ = some ((.slice a1 n1 c1)) ∧ w'.cell? ⟨wr.heap.size, 4, none⟩ = some (.bool ZQ.s) ∧ w'.cell? ⟨wr.heap.size, 5, none⟩ = some ((.slice a2 n2 c2)) ∧ w'.cell? ⟨wr.heap.size, 6, none⟩ = some ((.slice a3 n3 c3)) ∧ w'.cell? ⟨wr.heap.size, 7, none⟩ = some (.bool ZR.s) ∧ w'.cell? ⟨wr.heap.size, 8, none⟩ = some ((.slice a4 n4 c4)) ∧ w'.cell? ⟨wr.heap.size, 9, none⟩ = some ((.slice a5 n5 c5)) ∧ w'.cell? ⟨w.heap.size, 0, none⟩ = some (.int .i64 N) ∧ w'.cell? ⟨w.heap.size, 1, none⟩ = some (.bool T.s) ∧ w'.cell? ⟨w.heap.size, 2, none⟩ = some (t0) ∧ w'.cell? ⟨w.heap.size, 3, none⟩ = some (t1) ∧ w'.cell? ⟨w.heap.size, 4, none⟩ = some ((.slice (some ⟨g1, o1, none⟩) n c)) ∧ w'.cell? ⟨g1, o1 + j * 10, none⟩ = some (.int .i64 YA))) (by kernel_rfl) ?_ (fun hHeld => ?_)
             · exact mkS_12 _ _ S_4.out.drew
             refine tkH 0 ?_ ⟨some 15, .fieldAddr 63 (.tmp 5) 0, 0, "l08_star.go:8", #[], none⟩ ?_ ?_
             rotate_left
             · intro w9 hSw; (try dsimp only at hSw); go_simp; try with_reducible rfl
             try simp only [pm, s0, sS]
             refine tkH 1 ?_ ⟨some 16, .load 3 (.tmp 15), 3, "l08_star.go:8", #[⟨0, .data⟩], none⟩ ?_ ?_
             rotate_left
             · intro w9 hSw; (try dsimp only at hSw); go_simp; try with_reducible rfl
             try simp only [pm, s0, sS]
             refine wpAnyH_ready (rs := [2]) (by kernel_rfl) (by simp) ?_
             refine AllReadyH.cons (o := ⟨some 17, .call { callee := .value (.func 52), args := #[.tmp 16], argTypes := #[3] }, 4, "l08_star.go:8", #[⟨1, .data⟩], none⟩) rfl (fun K hK => ?_) AllReadyH.nil
             go_simp
             go_at_call 52
             refine (l06Node_any ZA _).mono ?_
             rintro e w9 ⟨rfl, hw⟩
             obtain rfl := hw.symm
             rw [HND.out]
             refine hK.out _ _ (mkS_12 _ _ S_4.out.drew) (fun hHeld2 => ?_)
             clear hK K
             try simp only [pm, s0, sS]
             refine tkH 3 ?_ ⟨some 18, .unOp .not 4 (.tmp 17), 4, "l08_star.go:8", #[⟨2, .data⟩], none⟩ ?_ ?_
             rotate_left
             · intro w9 hSw; (try dsimp only at hSw); go_simp; try with_reducible rfl
             try simp only [pm, s0, sS]
             refine tkH 4 ?_ ⟨some 19, .move (.tmp 18), 4, "l08_star.go:8", #[⟨3, .data⟩, ⟨2, .chain⟩], none⟩ ?_ ?_
             rotate_left
             · intro w9 hSw; (try dsimp only at hSw); go_simp; try with_reducible rfl
             try simp only [pm, s0, sS]
             refine tkH 5 ?_ ⟨some 20, .fieldAddr 63 (.tmp 5) 0, 0, "l08_star.go:8", #[⟨4, .guard⟩], some (4, false)⟩ ?_ ?_
             rotate_left
             · intro w9 hSw; (try dsimp only at hSw); go_simp; try with_reducible rfl
             try simp only [pm, s0, sS]
             refine tkH 6 ?_ ⟨some 21, .load 3 (.tmp 20), 3, "l08_star.go:8", #[⟨5, .data⟩, ⟨4, .guard⟩], some (4, false)⟩ ?_ ?_
             rotate_left
             · intro w9 hSw; (try dsimp only at hSw); go_simp; try with_reducible rfl
             try simp only [pm, s0, sS]
             refine tkH 7 ?_ ⟨some 22, .fieldAddr 60 (.tmp 1) 0, 0, "l08_star.go:8", #[⟨4, .guard⟩], some (4, false)⟩ ?_ ?_
             rotate_left
             · intro w9 hSw; (try dsimp only at hSw); go_simp; try with_reducible rfl
             try simp only [pm, s0, sS]
             refine tkH 8 ?_ ⟨some 23, .load 3 (.tmp 22), 3, "l08_star.go:8", #[⟨7, .data⟩, ⟨4, .guard⟩], some (4, false)⟩ ?_ ?_
             rotate_left
             · intro w9 hSw; (try dsimp only at hSw); go_simp; try with_reducible rfl
             try simp only [pm, s0, sS]
             refine tkH 9 ?_ ⟨some 24, .binOp .eql 3 (.tmp 21) (.tmp 23) 3, 4, "l08_star.go:8", #[⟨6, .data⟩, ⟨8, .data⟩, ⟨4, .guard⟩], some (4, false)⟩ ?_ ?_
             rotate_left
             · intro w9 hSw; (try dsimp only at hSw); go_simp; try with_reducible rfl
             try simp only [pm, s0, sS]
             refine tkH 10 ?_ ⟨some 25, .pick (.tmp 19) (.const (Value.bool true)) (.tmp 24), 4, "l08_star.go:8", #[⟨4, .data⟩, ⟨9, .data⟩], none⟩ ?_ ?_
             rotate_left
             · intro w9 hSw; (try dsimp only at hSw); go_simp; try with_reducible rfl
             try simp only [pm, s0, sS]
             refine tkH 11 ?_ ⟨some 26, .move (.tmp 25), 4, "l08_star.go:8", #[⟨10, .data⟩, ⟨4, .chain⟩], none⟩ ?_ ?_
             rotate_left
             · intro w9 hSw; (try dsimp only at hSw); go_simp; try with_reducible rfl
             try simp only [pm, s0, sS]
             refine tkH 12 ?_ ⟨some 27, .move (.tmp 4), 3, "l08_star.go:8", #[⟨11, .guard⟩], some (11, false)⟩ ?_ ?_
             rotate_left
             · intro w9 hSw; (try dsimp only at hSw); go_simp; try with_reducible rfl
             try simp only [pm, s0, sS]
             refine tkH 13 ?_ ⟨some 28, .binOp .gtr 3 (.tmp 27) (.const (Value.int IntKind.i64 0)) 3, 4, "l08_star.go:8", #[⟨12, .data⟩, ⟨11, .guard⟩], some (11, false)⟩ ?_ ?_
             rotate_left
             · intro w9 hSw; (try dsimp only at hSw); go_simp; try with_reducible rfl
             try simp only [pm, s0, sS]
             refine tkH 14 ?_ ⟨some 29, .move (.tmp 28), 4, "l08_star.go:8", #[⟨13, .data⟩, ⟨11, .chain⟩, ⟨11, .guard⟩], some (11, false)⟩ ?_ ?_
             rotate_left
             · intro w9 hSw; (try dsimp only at hSw); go_simp; try with_reducible rfl
             try simp only [pm, s0, sS]
             refine tkH 15 ?_ ⟨some 30, .fieldAddr 60 (.tmp 1) 2, 0, "l08_star.go:8", #[⟨14, .guard⟩], some (14, true)⟩ ?_ ?_
             rotate_left
             · intro w9 hSw; (try dsimp only at hSw); go_simp; try with_reducible rfl
             try simp only [pm, s0, sS]
             refine tkH 16 ?_ ⟨some 31, .load 58 (.tmp 30), 58, "l08_star.go:8", #[⟨15, .data⟩, ⟨14, .guard⟩], some (14, true)⟩ ?_ ?_
             rotate_left
             · intro w9 hSw; (try dsimp only at hSw); go_simp; try with_reducible rfl
             try simp only [pm, s0, sS]
             refine tkH 17 ?_ ⟨some 32, .move (.tmp 4), 3, "l08_star.go:8", #[⟨14, .guard⟩], some (14, true)⟩ ?_ ?_
             rotate_left
             · intro w9 hSw; (try dsimp only at hSw); go_simp; try with_reducible rfl
             try simp only [pm, s0, sS]
             refine tkH 18 ?_ ⟨some 33, .binOp .sub 3 (.tmp 32) (.const (Value.int IntKind.i64 1)) 3, 3, "l08_star.go:8", #[⟨17, .data⟩, ⟨14, .guard⟩], some (14, true)⟩ ?_ ?_
             rotate_left
             · intro w9 hSw; (try dsimp only at hSw); go_simp; try with_reducible rfl
             try simp only [pm, s0, sS]
             refine tkH 19 ?_ ⟨some 34, .indexAddr 58 (.tmp 31) (.tmp 33), 0, "l08_star.go:8", #[⟨16, .data⟩, ⟨18, .data⟩, ⟨14, .guard⟩], some (14, true)⟩ ?_ ?_
             rotate_left
             · intro w9 hSw; (try dsimp only at hSw); go_simp; try with_reducible rfl
             try simp only [pm, s0, sS]
             refine tkH 20 ?_ ⟨some 35, .fieldAddr 63 (.tmp 34) 0, 0, "l08_star.go:8", #[⟨19, .data⟩, ⟨14, .guard⟩], some (14, true)⟩ ?_ ?_
             rotate_left
             · intro w9 hSw; (try dsimp only at hSw); go_simp; try with_reducible rfl
             try simp only [pm, s0, sS]
             refine tkH 21 ?_ ⟨some 36, .load 3 (.tmp 35), 3, "l08_star.go:8", #[⟨20, .data⟩, ⟨14, .guard⟩], some (14, true)⟩ ?_ ?_
             rotate_left
             · intro w9 hSw; (try dsimp only at hSw); go_simp; try with_reducible rfl
             try simp only [pm, s0, sS]
             refine tkH 22 ?_ ⟨some 37, .fieldAddr 63 (.tmp 5) 0, 0, "l08_star.go:8", #[⟨14, .guard⟩], some (14, true)⟩ ?_ ?_
             rotate_left
             · intro w9 hSw; (try dsimp only at hSw); go_simp; try with_reducible rfl
             try simp only [pm, s0, sS]
             refine tkH 23 ?_ ⟨some 38, .load 3 (.tmp 37), 3, "l08_star.go:8", #[⟨22, .data⟩, ⟨14, .guard⟩], some (14, true)⟩ ?_ ?_
             rotate_left
             · intro w9 hSw; (try dsimp only at hSw); go_simp; try with_reducible rfl
             try simp only [pm, s0, sS]
             refine tkH 24 ?_ ⟨some 39, .binOp .geq 3 (.tmp 36) (.tmp 38) 3, 4, "l08_star.go:8", #[⟨21, .data⟩, ⟨23, .data⟩, ⟨14, .guard⟩], some (14, true)⟩ ?_ ?_
             rotate_left
             · intro w9 hSw; (try dsimp only at hSw); go_simp; try with_reducible rfl
             try simp only [pm, s0, sS]
             refine tkH 25 ?_ ⟨some 40, .pick (.tmp 29) (.tmp 39) (.const (Value.bool false)), 4, "l08_star.go:8", #[⟨14, .data⟩, ⟨24, .data⟩, ⟨11, .guard⟩], some (11, false)⟩ ?_ ?_
             rotate_left
             · intro w9 hSw; (try dsimp only at hSw); go_simp; try with_reducible rfl
             try simp only [pm, s0, sS]
             refine tkH 26 ?_ ⟨some 41, .pick (.tmp 26) (.const (Value.bool true)) (.tmp 40), 4, "l08_star.go:8", #[⟨11, .data⟩, ⟨25, .data⟩], none⟩ ?_ ?_
             rotate_left
             · intro w9 hSw; (try dsimp only at hSw); go_simp; try with_reducible rfl
             try simp only [pm, s0, sS]
             refine tkH 27 ?_ ⟨some 42, .move (.tmp 41), 4, "l08_star.go:8", #[⟨26, .data⟩, ⟨14, .chain⟩], none⟩ ?_ ?_
             rotate_left
             · intro w9 hSw; (try dsimp only at hSw); go_simp; try with_reducible rfl
             try simp only [pm, s0, sS]
             refine tkN 28 ⟨some 43, .fieldAddr 63 (.tmp 5) 1, 0, "l08_star.go:8", #[⟨27, .guard⟩], some (27, false)⟩ ?_
             try simp only [pm, s0, sS]
             refine tkN 29 ⟨some 44, .load 37 (.tmp 43), 37, "l08_star.go:8", #[⟨28, .data⟩, ⟨27, .guard⟩], some (27, false)⟩ ?_
             try simp only [pm, s0, sS]
             refine wpAnyH_ready (rs := [30]) (by kernel_rfl) (by simp) ?_
             refine AllReadyH.cons (o := ⟨some 45, .call { callee := .value (.func 53), args := #[.tmp 44], argTypes := #[37] }, 3, "l08_star.go:8", #[⟨29, .data⟩, ⟨27, .chain⟩, ⟨27, .guard⟩], some (27, false)⟩) rfl (fun K hK => ?_) AllReadyH.nil
             go_simp
             refine hK.out _ _ (mkS_12 _ _ S_4.out.drew) (fun hHeld30 => ?_)
             clear hK K
             try simp only [pm, s0, sS]
             refine tkN 31 ⟨some 46, .binOp .leq 3 (.tmp 45) (.const (Value.int IntKind.i64 0)) 3, 4, "l08_star.go:8", #[⟨30, .data⟩, ⟨27, .guard⟩], some (27, false)⟩ ?_
             try simp only [pm, s0, sS]
             refine tkH 32 ?_ ⟨some 47, .pick (.tmp 42) (.const (Value.bool true)) (.tmp 46), 4, "l08_star.go:8", #[⟨27, .data⟩, ⟨31, .data⟩], none⟩ ?_ ?_
             rotate_left
             · intro w9 hSw; (try dsimp only at hSw); go_simp; try with_reducible rfl
             try simp only [pm, s0, sS]
             refine tkH 33 ?_ ⟨some 48, .move (.tmp 47), 4, "l08_star.go:8", #[⟨32, .data⟩, ⟨30, .chain⟩], none⟩ ?_ ?_
             rotate_left
             · intro w9 hSw; (try dsimp only at hSw); go_simp; try with_reducible rfl
             try simp only [pm, s0, sS]
             refine tkN 34 ⟨some 49, .fieldAddr 63 (.tmp 5) 2, 0, "l08_star.go:8", #[⟨33, .guard⟩], some (33, false)⟩ ?_
             try simp only [pm, s0, sS]
             refine tkN 35 ⟨some 50, .load 37 (.tmp 49), 37, "l08_star.go:8", #[⟨34, .data⟩, ⟨33, .guard⟩], some (33, false)⟩ ?_
             try simp only [pm, s0, sS]
             refine wpAnyH_ready (rs := [36]) (by kernel_rfl) (by simp) ?_
             refine AllReadyH.cons (o := ⟨some 51, .call { callee := .value (.func 35), args := #[.tmp 50], argTypes := #[37] }, 4, "l08_star.go:8", #[⟨35, .data⟩, ⟨33, .chain⟩, ⟨33, .guard⟩], some (33, false)⟩) rfl (fun K hK => ?_) AllReadyH.nil
             go_simp
             refine hK.out _ _ (mkS_12 _ _ S_4.out.drew) (fun hHeld36 => ?_)
             clear hK K
             try simp only [pm, s0, sS]
             refine tkN 37 ⟨some 52, .unOp .not 4 (.tmp 51), 4, "l08_star.go:8", #[⟨36, .data⟩, ⟨33, .guard⟩], some (33, false)⟩ ?_
             try simp only [pm, s0, sS]
             refine tkH 38 ?_ ⟨some 53, .pick (.tmp 48) (.const (Value.bool true)) (.tmp 52), 4, "l08_star.go:8", #[⟨33, .data⟩, ⟨37, .data⟩], none⟩ ?_ ?_
             rotate_left
             · intro w9 hSw; (try dsimp only at hSw); go_simp; try with_reducible rfl
             try simp only [pm, s0, sS]
             refine tkH 39 ?_ ⟨some 54, .move (.tmp 53), 4, "l08_star.go:8", #[⟨38, .data⟩, ⟨36, .chain⟩], none⟩ ?_ ?_
             rotate_left
             · intro w9 hSw; (try dsimp only at hSw); go_simp; try with_reducible rfl
             try simp only [pm, s0, sS]
             refine tkN 40 ⟨some 55, .fieldAddr 63 (.tmp 5) 3, 0, "l08_star.go:8", #[⟨39, .guard⟩], some (39, false)⟩ ?_
             try simp only [pm, s0, sS]
             refine tkN 41 ⟨some 56, .load 37 (.tmp 55), 37, "l08_star.go:8", #[⟨40, .data⟩, ⟨39, .guard⟩], some (39, false)⟩ ?_
             try simp only [pm, s0, sS]
             refine wpAnyH_ready (rs := [42]) (by kernel_rfl) (by simp) ?_
             refine AllReadyH.cons (o := ⟨some 57, .call { callee := .value (.func 35), args := #[.tmp 56], argTypes := #[37] }, 4, "l08_star.go:8", #[⟨41, .data⟩, ⟨39, .chain⟩, ⟨39, .guard⟩], some (39, false)⟩) rfl (fun K hK => ?_) AllReadyH.nil
             go_simp
             refine hK.out _ _ (mkS_12 _ _ S_4.out.drew) (fun hHeld42 => ?_)
             clear hK K
             try simp only [pm, s0, sS]
             refine tkN 43 ⟨some 58, .unOp .not 4 (.tmp 57), 4, "l08_star.go:8", #[⟨42, .data⟩, ⟨39, .guard⟩], some (39, false)⟩ ?_
             try simp only [pm, s0, sS]
             refine tkH 44 ?_ ⟨some 59, .pick (.tmp 54) (.const (Value.bool true)) (.tmp 58), 4, "l08_star.go:8", #[⟨39, .data⟩, ⟨43, .data⟩], none⟩ ?_ ?_
             rotate_left
             · intro w9 hSw; (try dsimp only at hSw); go_simp; try with_reducible rfl
             try simp only [pm, s0, sS]
             refine wpAnyH_done (by kernel_rfl) ?_ _
             refine NoPanic.normal ?_
             go_wp2
             go_ret
             exact ⟨ret_bool HE.out, S_4.out.drew.below⟩
     · have HE := Lib.hid (show false = ok by rw [← HOK.out]; exact (okC_no (.inr (.inr (.inr (.inl (okPa_bad HZ.out (by rw [← Bool.not_eq_true, paOk_parts]; show ¬ ((0 ≤ ZA ∧ ZA < 10) ∧ ¬ ZA = N ∧ 0 < ZP.sgn ∧ ZQ.ok = true ∧ ZR.ok = true); exact fun h => h1 h.1))))))).symm)
       have HND := Lib.hid (decide_eq_false h1)
       have mkS_13 : ∀ (w' : World) (cs' : List Chunk), St w w' [(wr.heap.size, [.int .i64 ZA, .bool ZP.s, (.slice a0 n0 c0), (.slice a1 n1 c1), .bool ZQ.s, (.slice a2 n2 c2), (.slice a3 n3 c3), .bool ZR.s, (.slice a4 n4 c4), (.slice a5 n5 c5)]), (w1.heap.size, [.bool S.s, (.slice As ns cs), (.slice Bs ms ds)]), (w.heap.size, [.int .i64 N, .bool T.s, t0, t1, (.slice (some ⟨g1, o1, none⟩) n c)])] cs' → w'.cell? ⟨wr.heap.size, 0, none⟩ = some (.int .i64 ZA) ∧ w'.cell? ⟨wr.heap.size, 1, none⟩ = some (.bool ZP.s) ∧ w'.cell? ⟨wr.heap.size, 2, none⟩ = some ((.slice a0 n0 c0)) ∧ w'.cell? ⟨wr.heap.size, 3, none⟩ = some ((.slice a1 n1 c1)) ∧ w'.cell? ⟨wr.heap.size, 4, none⟩ = some (.bool ZQ.s) ∧ w'.cell? ⟨wr.heap.size, 5, none⟩ = some ((.slice a2 n2 c2)) ∧ w'.cell? ⟨wr.heap.size, 6, none⟩ = some ((.slice a3 n3 c3)) ∧ w'.cell? ⟨wr.heap.size, 7, none⟩ = some (.bool ZR.s) ∧ w'.cell? ⟨wr.heap.size, 8, none⟩ = some ((.slice a4 n4 c4)) ∧ w'.cell? ⟨wr.heap.size, 9, none⟩ = some ((.slice a5 n5 c5)) ∧ w'.cell? ⟨w.heap.size, 0, none⟩ = some (.int .i64 N) ∧ w'.cell? ⟨w.heap.size, 1, none⟩ = some (.bool T.s) ∧ w'.cell? ⟨w.heap.size, 2, none⟩ = some (t0) ∧ w'.cell? ⟨w.heap.size, 3, none⟩ = some (t1) ∧ w'.cell? ⟨w.heap.size, 4, none⟩ = some ((.slice (some ⟨g1, o1, none⟩) n c)) := fun w' cs' h => ⟨h.cell 0 0 rfl rfl, h.cell 0 1 rfl rfl, h.cell 0 2 rfl rfl, h.cell 0 3 rfl rfl, h.cell 0 4 rfl rfl, h.cell 0 5 rfl rfl, h.cell 0 6 rfl rfl, h.cell 0 7 rfl rfl, h.cell 0 8 rfl rfl, h.cell 0 9 rfl rfl, h.cell 2 0 rfl rfl, h.cell 2 1 rfl rfl, h.cell 2 2 rfl rfl, h.cell 2 3 rfl rfl, h.cell 2 4 rfl rfl⟩
       refine wp_region_noPanic ?_
       refine wp_region_held_drew (S := (fun w' => w'.cell? ⟨wr.heap.size, 0, none⟩ = some (.int .i64 ZA) ∧ w'.cell? ⟨wr.heap.size, 1, none⟩ = some (.bool ZP.s) ∧ w'.cell? ⟨wr.heap.size, 2, none⟩ = some ((.slice a0 n0 c0)) ∧ w'.cell? ⟨wr.heap.size, 3, none⟩ = some ((.slice a1 n1 c1)) ∧ w'.cell? ⟨wr.heap.size, 4, none⟩ = some (.bool ZQ.s) ∧ w'.cell? ⟨wr.heap.size, 5, none⟩ = some ((.slice a2 n2 c2)) ∧ w'.cell? ⟨wr.heap.size, 6, none⟩ = some ((.slice a3 n3 c3)) ∧ w'.cell? ⟨wr.heap.size, 7, none⟩ = some (.bool ZR.s) ∧ w'.cell? ⟨wr.heap.size, 8, none⟩ = some ((.slice a4 n4 c4)) ∧ w'.cell? ⟨wr.heap.size, 9, none⟩ = some ((.slice a5 n5 c5)) ∧ w'.cell? ⟨w.heap.size, 0, none⟩ = some (.int .i64 N) ∧ w'.cell? ⟨w.heap.size, 1, none⟩ = some (.bool T.s) ∧ w'.cell? ⟨w.heap.size, 2, none⟩ = some (t0) ∧ w'.cell? ⟨w.heap.size, 3, none⟩ = some (t1) ∧ w'.cell? ⟨w.heap.size, 4, none⟩ = some ((.slice (some ⟨g1, o1, none⟩) n c)))) (by kernel_rfl) ?_ (fun hHeld => ?_)
       · exact mkS_13 _ _ S_4.out.drew
       refine tkH 0 ?_ ⟨some 15, .fieldAddr 63 (.tmp 5) 0, 0, "l08_star.go:8", #[], none⟩ ?_ ?_
       rotate_left
       · intro w9 hSw; (try dsimp only at hSw); go_simp; try with_reducible rfl
       try simp only [pm, s0, sS]
       refine tkH 1 ?_ ⟨some 16, .load 3 (.tmp 15), 3, "l08_star.go:8", #[⟨0, .data⟩], none⟩ ?_ ?_
       rotate_left
       · intro w9 hSw; (try dsimp only at hSw); go_simp; try with_reducible rfl
       try simp only [pm, s0, sS]
       refine wpAnyH_ready (rs := [2]) (by kernel_rfl) (by simp) ?_
       refine AllReadyH.cons (o := ⟨some 17, .call { callee := .value (.func 52), args := #[.tmp 16], argTypes := #[3] }, 4, "l08_star.go:8", #[⟨1, .data⟩], none⟩) rfl (fun K hK => ?_) AllReadyH.nil
       go_simp
       go_at_call 52
       refine (l06Node_any ZA _).mono ?_
       rintro e w9 ⟨rfl, hw⟩
       obtain rfl := hw.symm
       rw [HND.out]
       refine hK.out _ _ (mkS_13 _ _ S_4.out.drew) (fun hHeld2 => ?_)
       clear hK K
       try simp only [pm, s0, sS]
       refine tkH 3 ?_ ⟨some 18, .unOp .not 4 (.tmp 17), 4, "l08_star.go:8", #[⟨2, .data⟩], none⟩ ?_ ?_
       rotate_left
       · intro w9 hSw; (try dsimp only at hSw); go_simp; try with_reducible rfl
       try simp only [pm, s0, sS]
       refine tkH 4 ?_ ⟨some 19, .move (.tmp 18), 4, "l08_star.go:8", #[⟨3, .data⟩, ⟨2, .chain⟩], none⟩ ?_ ?_
       rotate_left
       · intro w9 hSw; (try dsimp only at hSw); go_simp; try with_reducible rfl
       try simp only [pm, s0, sS]
       refine tkN 5 ⟨some 20, .fieldAddr 63 (.tmp 5) 0, 0, "l08_star.go:8", #[⟨4, .guard⟩], some (4, false)⟩ ?_
       try simp only [pm, s0, sS]
       refine tkN 6 ⟨some 21, .load 3 (.tmp 20), 3, "l08_star.go:8", #[⟨5, .data⟩, ⟨4, .guard⟩], some (4, false)⟩ ?_
       try simp only [pm, s0, sS]
       refine tkN 7 ⟨some 22, .fieldAddr 60 (.tmp 1) 0, 0, "l08_star.go:8", #[⟨4, .guard⟩], some (4, false)⟩ ?_
       try simp only [pm, s0, sS]
       refine tkN 8 ⟨some 23, .load 3 (.tmp 22), 3, "l08_star.go:8", #[⟨7, .data⟩, ⟨4, .guard⟩], some (4, false)⟩ ?_
       try simp only [pm, s0, sS]
       refine tkN 9 ⟨some 24, .binOp .eql 3 (.tmp 21) (.tmp 23) 3, 4, "l08_star.go:8", #[⟨6, .data⟩, ⟨8, .data⟩, ⟨4, .guard⟩], some (4, false)⟩ ?_
       try simp only [pm, s0, sS]
       refine tkH 10 ?_ ⟨some 25, .pick (.tmp 19) (.const (Value.bool true)) (.tmp 24), 4, "l08_star.go:8", #[⟨4, .data⟩, ⟨9, .data⟩], none⟩ ?_ ?_
       rotate_left
       · intro w9 hSw; (try dsimp only at hSw); go_simp; try with_reducible rfl
       try simp only [pm, s0, sS]
       refine tkH 11 ?_ ⟨some 26, .move (.tmp 25), 4, "l08_star.go:8", #[⟨10, .data⟩, ⟨4, .chain⟩], none⟩ ?_ ?_
       rotate_left
       · intro w9 hSw; (try dsimp only at hSw); go_simp; try with_reducible rfl
       try simp only [pm, s0, sS]
       refine tkN 12 ⟨some 27, .move (.tmp 4), 3, "l08_star.go:8", #[⟨11, .guard⟩], some (11, false)⟩ ?_
       try simp only [pm, s0, sS]
       refine tkN 13 ⟨some 28, .binOp .gtr 3 (.tmp 27) (.const (Value.int IntKind.i64 0)) 3, 4, "l08_star.go:8", #[⟨12, .data⟩, ⟨11, .guard⟩], some (11, false)⟩ ?_
       try simp only [pm, s0, sS]
       refine tkN 14 ⟨some 29, .move (.tmp 28), 4, "l08_star.go:8", #[⟨13, .data⟩, ⟨11, .chain⟩, ⟨11, .guard⟩], some (11, false)⟩ ?_
       try simp only [pm, s0, sS]
       refine tkN 15 ⟨some 30, .fieldAddr 60 (.tmp 1) 2, 0, "l08_star.go:8", #[⟨14, .guard⟩], some (14, true)⟩ ?_
       try simp only [pm, s0, sS]
       refine tkN 16 ⟨some 31, .load 58 (.tmp 30), 58, "l08_star.go:8", #[⟨15, .data⟩, ⟨14, .guard⟩], some (14, true)⟩ ?_
       try simp only [pm, s0, sS]
       refine tkN 17 ⟨some 32, .move (.tmp 4), 3, "l08_star.go:8", #[⟨14, .guard⟩], some (14, true)⟩ ?_
       try simp only [pm, s0, sS]
       refine tkN 18 ⟨some 33, .binOp .sub 3 (.tmp 32) (.const (Value.int IntKind.i64 1)) 3, 3, "l08_star.go:8", #[⟨17, .data⟩, ⟨14, .guard⟩], some (14, true)⟩ ?_
       try simp only [pm, s0, sS]
       refine tkN 19 ⟨some 34, .indexAddr 58 (.tmp 31) (.tmp 33), 0, "l08_star.go:8", #[⟨16, .data⟩, ⟨18, .data⟩, ⟨14, .guard⟩], some (14, true)⟩ ?_
       try simp only [pm, s0, sS]
       refine tkN 20 ⟨some 35, .fieldAddr 63 (.tmp 34) 0, 0, "l08_star.go:8", #[⟨19, .data⟩, ⟨14, .guard⟩], some (14, true)⟩ ?_
       try simp only [pm, s0, sS]
       refine tkN 21 ⟨some 36, .load 3 (.tmp 35), 3, "l08_star.go:8", #[⟨20, .data⟩, ⟨14, .guard⟩], some (14, true)⟩ ?_
       try simp only [pm, s0, sS]
       refine tkN 22 ⟨some 37, .fieldAddr 63 (.tmp 5) 0, 0, "l08_star.go:8", #[⟨14, .guard⟩], some (14, true)⟩ ?_
       try simp only [pm, s0, sS]
       refine tkN 23 ⟨some 38, .load 3 (.tmp 37), 3, "l08_star.go:8", #[⟨22, .data⟩, ⟨14, .guard⟩], some (14, true)⟩ ?_
       try simp only [pm, s0, sS]
       refine tkN 24 ⟨some 39, .binOp .geq 3 (.tmp 36) (.tmp 38) 3, 4, "l08_star.go:8", #[⟨21, .data⟩, ⟨23, .data⟩, ⟨14, .guard⟩], some (14, true)⟩ ?_
       try simp only [pm, s0, sS]
       refine tkN 25 ⟨some 40, .pick (.tmp 29) (.tmp 39) (.const (Value.bool false)), 4, "l08_star.go:8", #[⟨14, .data⟩, ⟨24, .data⟩, ⟨11, .guard⟩], some (11, false)⟩ ?_
       try simp only [pm, s0, sS]
       refine tkH 26 ?_ ⟨some 41, .pick (.tmp 26) (.const (Value.bool true)) (.tmp 40), 4, "l08_star.go:8", #[⟨11, .data⟩, ⟨25, .data⟩], none⟩ ?_ ?_
       rotate_left
       · intro w9 hSw; (try dsimp only at hSw); go_simp; try with_reducible rfl
       try simp only [pm, s0, sS]
       refine tkH 27 ?_ ⟨some 42, .move (.tmp 41), 4, "l08_star.go:8", #[⟨26, .data⟩, ⟨14, .chain⟩], none⟩ ?_ ?_
       rotate_left
       · intro w9 hSw; (try dsimp only at hSw); go_simp; try with_reducible rfl
       try simp only [pm, s0, sS]
       refine tkN 28 ⟨some 43, .fieldAddr 63 (.tmp 5) 1, 0, "l08_star.go:8", #[⟨27, .guard⟩], some (27, false)⟩ ?_
       try simp only [pm, s0, sS]
       refine tkN 29 ⟨some 44, .load 37 (.tmp 43), 37, "l08_star.go:8", #[⟨28, .data⟩, ⟨27, .guard⟩], some (27, false)⟩ ?_
       try simp only [pm, s0, sS]
       refine wpAnyH_ready (rs := [30]) (by kernel_rfl) (by simp) ?_
       refine AllReadyH.cons (o := ⟨some 45, .call { callee := .value (.func 53), args := #[.tmp 44], argTypes := #[37] }, 3, "l08_star.go:8", #[⟨29, .data⟩, ⟨27, .chain⟩, ⟨27, .guard⟩], some (27, false)⟩) rfl (fun K hK => ?_) AllReadyH.nil
       go_simp
       refine hK.out _ _ (mkS_13 _ _ S_4.out.drew) (fun hHeld30 => ?_)
       clear hK K
       try simp only [pm, s0, sS]
       refine tkN 31 ⟨some 46, .binOp .leq 3 (.tmp 45) (.const (Value.int IntKind.i64 0)) 3, 4, "l08_star.go:8", #[⟨30, .data⟩, ⟨27, .guard⟩], some (27, false)⟩ ?_
       try simp only [pm, s0, sS]
       refine tkH 32 ?_ ⟨some 47, .pick (.tmp 42) (.const (Value.bool true)) (.tmp 46), 4, "l08_star.go:8", #[⟨27, .data⟩, ⟨31, .data⟩], none⟩ ?_ ?_
       rotate_left
       · intro w9 hSw; (try dsimp only at hSw); go_simp; try with_reducible rfl
       try simp only [pm, s0, sS]
       refine tkH 33 ?_ ⟨some 48, .move (.tmp 47), 4, "l08_star.go:8", #[⟨32, .data⟩, ⟨30, .chain⟩], none⟩ ?_ ?_
       rotate_left
       · intro w9 hSw; (try dsimp only at hSw); go_simp; try with_reducible rfl
       try simp only [pm, s0, sS]
       refine tkN 34 ⟨some 49, .fieldAddr 63 (.tmp 5) 2, 0, "l08_star.go:8", #[⟨33, .guard⟩], some (33, false)⟩ ?_
       try simp only [pm, s0, sS]
       refine tkN 35 ⟨some 50, .load 37 (.tmp 49), 37, "l08_star.go:8", #[⟨34, .data⟩, ⟨33, .guard⟩], some (33, false)⟩ ?_
       try simp only [pm, s0, sS]
       refine wpAnyH_ready (rs := [36]) (by kernel_rfl) (by simp) ?_
       refine AllReadyH.cons (o := ⟨some 51, .call { callee := .value (.func 35), args := #[.tmp 50], argTypes := #[37] }, 4, "l08_star.go:8", #[⟨35, .data⟩, ⟨33, .chain⟩, ⟨33, .guard⟩], some (33, false)⟩) rfl (fun K hK => ?_) AllReadyH.nil
       go_simp
       refine hK.out _ _ (mkS_13 _ _ S_4.out.drew) (fun hHeld36 => ?_)
       clear hK K
       try simp only [pm, s0, sS]
       refine tkN 37 ⟨some 52, .unOp .not 4 (.tmp 51), 4, "l08_star.go:8", #[⟨36, .data⟩, ⟨33, .guard⟩], some (33, false)⟩ ?_
       try simp only [pm, s0, sS]
       refine tkH 38 ?_ ⟨some 53, .pick (.tmp 48) (.const (Value.bool true)) (.tmp 52), 4, "l08_star.go:8", #[⟨33, .data⟩, ⟨37, .data⟩], none⟩ ?_ ?_
       rotate_left
       · intro w9 hSw; (try dsimp only at hSw); go_simp; try with_reducible rfl
       try simp only [pm, s0, sS]
       refine tkH 39 ?_ ⟨some 54, .move (.tmp 53), 4, "l08_star.go:8", #[⟨38, .data⟩, ⟨36, .chain⟩], none⟩ ?_ ?_
       rotate_left
       · intro w9 hSw; (try dsimp only at hSw); go_simp; try with_reducible rfl
       try simp only [pm, s0, sS]
       refine tkN 40 ⟨some 55, .fieldAddr 63 (.tmp 5) 3, 0, "l08_star.go:8", #[⟨39, .guard⟩], some (39, false)⟩ ?_
       try simp only [pm, s0, sS]
       refine tkN 41 ⟨some 56, .load 37 (.tmp 55), 37, "l08_star.go:8", #[⟨40, .data⟩, ⟨39, .guard⟩], some (39, false)⟩ ?_
       try simp only [pm, s0, sS]
       refine wpAnyH_ready (rs := [42]) (by kernel_rfl) (by simp) ?_
       refine AllReadyH.cons (o := ⟨some 57, .call { callee := .value (.func 35), args := #[.tmp 56], argTypes := #[37] }, 4, "l08_star.go:8", #[⟨41, .data⟩, ⟨39, .chain⟩, ⟨39, .guard⟩], some (39, false)⟩) rfl (fun K hK => ?_) AllReadyH.nil
       go_simp
       refine hK.out _ _ (mkS_13 _ _ S_4.out.drew) (fun hHeld42 => ?_)
       clear hK K
       try simp only [pm, s0, sS]
       refine tkN 43 ⟨some 58, .unOp .not 4 (.tmp 57), 4, "l08_star.go:8", #[⟨42, .data⟩, ⟨39, .guard⟩], some (39, false)⟩ ?_
       try simp only [pm, s0, sS]
       refine tkH 44 ?_ ⟨some 59, .pick (.tmp 54) (.const (Value.bool true)) (.tmp 58), 4, "l08_star.go:8", #[⟨39, .data⟩, ⟨43, .data⟩], none⟩ ?_ ?_
       rotate_left
       · intro w9 hSw; (try dsimp only at hSw); go_simp; try with_reducible rfl
       try simp only [pm, s0, sS]
       refine wpAnyH_done (by kernel_rfl) ?_ _
       refine NoPanic.normal ?_
       go_wp2
       go_ret
       exact ⟨ret_bool HE.out, S_4.out.drew.below⟩
   · obtain rfl : k = n := by omega
     have hl : (dats zs).take k = dats zs := List.take_of_length_le (by rw [dats_len, HL.out]; exact Nat.le_refl _)
     have HSS := Lib.hid (show paSum (dats zs) = S by rw [← HS.out, hl])
     have HAL := Lib.hid (show (dats zs).all (paOk N) = true from okPa_iff.mpr (by rw [dats_len, HL.out]; exact HV.out))
     have HAC := Lib.hid (show paAsc (dats zs) = true from paAsc_iff.mpr (by rw [dats_len, HL.out]; exact HAS.out))
     clear hl
     by_cases h1 : 1 ≤ N ∧ N ≤ 9
     · have HNI := Lib.hid (decide_eq_true h1)
       by_cases h2 : 0 < g
       · by_cases h3 : k = 0
         · have h3b : ¬ (0 : Int) < (k : Int) := by omega
           have h3c : ¬ 0 < k := by omega
           have HE := Lib.hid (show false = ok by rw [← HOK.out, okC_end h1 (HG.out ▸ h2) HAC.out HAL.out]; have h4 : dats zs = [] := List.eq_nil_of_length_eq_zero (by rw [dats_len, HL.out]; exact h3); rw [h4]; exact same_01.symm)
           clear hk_c_0_3 hk_c_1_3 hk_c_2_3 hk_c_3_3 hk_c_4_3 hk_sum_0_3 hk_sum_0_3f hk_sum_1_3 hk_sum_1_3f hk_sum_2_3 hk_sum_2_3f
           have hk_c_0_13 := R_0.out.cell 1 0 rfl rfl
           have hk_c_1_13 := R_0.out.cell 1 1 rfl rfl
           have hk_c_2_13 := R_0.out.cell 1 2 rfl rfl
           have hk_c_3_13 := R_0.out.cell 1 3 rfl rfl
           have hk_c_4_13 := R_0.out.cell 1 4 rfl rfl
           have hk_sum_0_13 := R_0.out.cell 0 0 rfl rfl
           have hk_sum_1_13 := R_0.out.cell 0 1 rfl rfl
           have hk_sum_2_13 := R_0.out.cell 0 2 rfl rfl
           go_wp2
           clear hk_c_0_13 hk_c_1_13 hk_c_2_13 hk_c_3_13 hk_c_4_13 hk_sum_0_13 hk_sum_1_13 hk_sum_2_13
           have mkS_14 : ∀ (w' : World) (cs' : List Chunk), St w w' [(w1.heap.size, [.bool S.s, (.slice As ns cs), (.slice Bs ms ds)]), (w.heap.size, [.int .i64 N, .bool T.s, t0, t1, (.slice A k c)])] cs' → w'.cell? ⟨w1.heap.size, 0, none⟩ = some (.bool S.s) ∧ w'.cell? ⟨w1.heap.size, 1, none⟩ = some ((.slice As ns cs)) ∧ w'.cell? ⟨w1.heap.size, 2, none⟩ = some ((.slice Bs ms ds)) ∧ w'.cell? ⟨w.heap.size, 0, none⟩ = some (.int .i64 N) ∧ w'.cell? ⟨w.heap.size, 1, none⟩ = some (.bool T.s) ∧ w'.cell? ⟨w.heap.size, 2, none⟩ = some (t0) ∧ w'.cell? ⟨w.heap.size, 3, none⟩ = some (t1) ∧ w'.cell? ⟨w.heap.size, 4, none⟩ = some ((.slice A k c)) := fun w' cs' h => ⟨h.cell 0 0 rfl rfl, h.cell 0 1 rfl rfl, h.cell 0 2 rfl rfl, h.cell 1 0 rfl rfl, h.cell 1 1 rfl rfl, h.cell 1 2 rfl rfl, h.cell 1 3 rfl rfl, h.cell 1 4 rfl rfl⟩
           refine wp_region_noPanic ?_
           refine wp_region_held_drew (S := (fun w' => w'.cell? ⟨w1.heap.size, 0, none⟩ = some (.bool S.s) ∧ w'.cell? ⟨w1.heap.size, 1, none⟩ = some ((.slice As ns cs)) ∧ w'.cell? ⟨w1.heap.size, 2, none⟩ = some ((.slice Bs ms ds)) ∧ w'.cell? ⟨w.heap.size, 0, none⟩ = some (.int .i64 N) ∧ w'.cell? ⟨w.heap.size, 1, none⟩ = some (.bool T.s) ∧ w'.cell? ⟨w.heap.size, 2, none⟩ = some (t0) ∧ w'.cell? ⟨w.heap.size, 3, none⟩ = some (t1) ∧ w'.cell? ⟨w.heap.size, 4, none⟩ = some ((.slice A k c)))) (by kernel_rfl) ?_ (fun hHeld => ?_)
           · exact mkS_14 _ _ R_0.out.drew
           refine tkH 0 ?_ ⟨some 65, .fieldAddr 60 (.tmp 1) 0, 0, "l08_star.go:13", #[], none⟩ ?_ ?_
           rotate_left
           · intro w9 hSw; (try dsimp only at hSw); go_simp; try with_reducible rfl
           try simp only [pm, s0, sS]
           refine tkH 1 ?_ ⟨some 66, .load 3 (.tmp 65), 3, "l08_star.go:13", #[⟨0, .data⟩], none⟩ ?_ ?_
           rotate_left
           · intro w9 hSw; (try dsimp only at hSw); go_simp; try with_reducible rfl
           try simp only [pm, s0, sS]
           refine wpAnyH_ready (rs := [2]) (by kernel_rfl) (by simp) ?_
           refine AllReadyH.cons (o := ⟨some 67, .call { callee := .value (.func 32), args := #[.tmp 66, .const (Value.int IntKind.i64 1), .const (Value.int IntKind.i64 9)], argTypes := #[3, 3, 3] }, 4, "l08_star.go:13", #[⟨1, .data⟩], none⟩) rfl (fun K hK => ?_) AllReadyH.nil
           go_simp
           go_at_call 32
           refine (l01In_any N 1 9 _).mono ?_
           rintro e w9 ⟨rfl, hw⟩
           obtain rfl := hw.symm
           rw [HNI.out]
           refine hK.out _ _ (mkS_14 _ _ R_0.out.drew) (fun hHeld2 => ?_)
           clear hK K
           try simp only [pm, s0, sS]
           refine tkH 3 ?_ ⟨some 68, .move (.tmp 67), 4, "l08_star.go:13", #[⟨2, .data⟩, ⟨2, .chain⟩], none⟩ ?_ ?_
           rotate_left
           · intro w9 hSw; (try dsimp only at hSw); go_simp; try with_reducible rfl
           try simp only [pm, s0, sS]
           refine tkH 4 ?_ ⟨some 69, .fieldAddr 60 (.tmp 1) 1, 0, "l08_star.go:13", #[⟨3, .guard⟩], some (3, true)⟩ ?_ ?_
           rotate_left
           · intro w9 hSw; (try dsimp only at hSw); go_simp; try with_reducible rfl
           try simp only [pm, s0, sS]
           refine tkH 5 ?_ ⟨some 70, .load 37 (.tmp 69), 37, "l08_star.go:13", #[⟨4, .data⟩, ⟨3, .guard⟩], some (3, true)⟩ ?_ ?_
           rotate_left
           · intro w9 hSw; (try dsimp only at hSw); go_simp; try with_reducible rfl
           try simp only [pm, s0, sS]
           refine wpAnyH_ready (rs := [6]) (by kernel_rfl) (by simp) ?_
           refine AllReadyH.cons (o := ⟨some 71, .call { callee := .value (.func 53), args := #[.tmp 70], argTypes := #[37] }, 3, "l08_star.go:13", #[⟨5, .data⟩, ⟨3, .chain⟩, ⟨3, .guard⟩], some (3, true)⟩) rfl (fun K hK => ?_) AllReadyH.nil
           go_simp
           go_at_call 53
           refine (ratSign_s T t0 t1 _ (R_0.out.drew.frA HT.out)).mono ?_
           rintro e w5 ⟨rfl, hb⟩
           rw [HG.out] at ⊢
           have S_14 := Lib.hid (R_0.out.drew.call hb)
           clear R_0 hb
           refine hK.out _ _ (mkS_14 _ _ S_14.out) (fun hHeld6 => ?_)
           clear hK K
           try simp only [pm, s0, sS]
           refine tkH 7 ?_ ⟨some 72, .binOp .gtr 3 (.tmp 71) (.const (Value.int IntKind.i64 0)) 3, 4, "l08_star.go:13", #[⟨6, .data⟩, ⟨3, .guard⟩], some (3, true)⟩ ?_ ?_
           rotate_left
           · intro w9 hSw; (try dsimp only at hSw); go_simp; try with_reducible rfl
           try simp only [pm, s0, sS]
           refine tkH 8 ?_ ⟨some 73, .pick (.tmp 68) (.tmp 72) (.const (Value.bool false)), 4, "l08_star.go:13", #[⟨3, .data⟩, ⟨7, .data⟩], none⟩ ?_ ?_
           rotate_left
           · intro w9 hSw; (try dsimp only at hSw); go_simp; try with_reducible rfl
           try simp only [pm, s0, sS]
           refine tkH 9 ?_ ⟨some 74, .move (.tmp 73), 4, "l08_star.go:13", #[⟨8, .data⟩, ⟨6, .chain⟩], none⟩ ?_ ?_
           rotate_left
           · intro w9 hSw; (try dsimp only at hSw); go_simp; try with_reducible rfl
           try simp only [pm, s0, sS]
           refine tkH 10 ?_ ⟨some 75, .fieldAddr 60 (.tmp 1) 2, 0, "l08_star.go:13", #[⟨9, .guard⟩], some (9, true)⟩ ?_ ?_
           rotate_left
           · intro w9 hSw; (try dsimp only at hSw); go_simp; try with_reducible rfl
           try simp only [pm, s0, sS]
           refine tkH 11 ?_ ⟨some 76, .load 58 (.tmp 75), 58, "l08_star.go:13", #[⟨10, .data⟩, ⟨9, .guard⟩], some (9, true)⟩ ?_ ?_
           rotate_left
           · intro w9 hSw; (try dsimp only at hSw); go_simp; try with_reducible rfl
           try simp only [pm, s0, sS]
           refine tkH 12 ?_ ⟨some 77, .call { callee := .builtin .len, args := #[.tmp 76], argTypes := #[58] }, 3, "l08_star.go:13", #[⟨11, .data⟩, ⟨9, .guard⟩], some (9, true)⟩ ?_ ?_
           rotate_left
           · intro w9 hSw; (try dsimp only at hSw); go_simp; try with_reducible rfl
           try simp only [pm, s0, sS]
           refine tkH 13 ?_ ⟨some 78, .binOp .gtr 3 (.tmp 77) (.const (Value.int IntKind.i64 0)) 3, 4, "l08_star.go:13", #[⟨12, .data⟩, ⟨9, .guard⟩], some (9, true)⟩ ?_ ?_
           rotate_left
           · intro w9 hSw; (try dsimp only at hSw); go_simp; try with_reducible rfl
           try simp only [pm, s0, sS]
           refine tkH 14 ?_ ⟨some 79, .pick (.tmp 74) (.tmp 78) (.const (Value.bool false)), 4, "l08_star.go:13", #[⟨9, .data⟩, ⟨13, .data⟩], none⟩ ?_ ?_
           rotate_left
           · intro w9 hSw; (try dsimp only at hSw); go_simp; try with_reducible rfl
           try simp only [pm, s0, sS]
           refine tkH 15 ?_ ⟨some 80, .move (.tmp 79), 4, "l08_star.go:13", #[⟨14, .data⟩, ⟨9, .chain⟩], none⟩ ?_ ?_
           rotate_left
           · intro w9 hSw; (try dsimp only at hSw); go_simp; try with_reducible rfl
           try simp only [pm, s0, sS]
           refine tkN 16 ⟨some 81, .load 37 (.tmp 3), 37, "l08_star.go:13", #[⟨15, .guard⟩], some (15, true)⟩ ?_
           try simp only [pm, s0, sS]
           refine wpAnyH_ready (rs := [17]) (by kernel_rfl) (by simp) ?_
           refine AllReadyH.cons (o := ⟨some 82, .call { callee := .value (.func 31), args := #[.const (Value.int IntKind.i64 1)], argTypes := #[3] }, 37, "l08_star.go:13", #[⟨15, .chain⟩, ⟨15, .guard⟩], some (15, true)⟩) rfl (fun K hK => ?_) AllReadyH.nil
           go_simp
           refine hK.out _ _ (mkS_14 _ _ S_14.out) (fun hHeld17 => ?_)
           clear hK K
           try simp only [pm, s0, sS]
           refine wpAnyH_ready (rs := [18]) (by kernel_rfl) (by simp) ?_
           refine AllReadyH.cons (o := ⟨some 83, .call { callee := .value (.func 54), args := #[.tmp 81, .tmp 82], argTypes := #[37, 37] }, 4, "l08_star.go:13", #[⟨16, .data⟩, ⟨17, .data⟩, ⟨17, .chain⟩, ⟨15, .guard⟩], some (15, true)⟩) rfl (fun K hK => ?_) AllReadyH.nil
           go_simp
           refine hK.out _ _ (mkS_14 _ _ S_14.out) (fun hHeld18 => ?_)
           clear hK K
           try simp only [pm, s0, sS]
           refine tkH 19 ?_ ⟨some 84, .pick (.tmp 80) (.tmp 83) (.const (Value.bool false)), 4, "l08_star.go:13", #[⟨15, .data⟩, ⟨18, .data⟩], none⟩ ?_ ?_
           rotate_left
           · intro w9 hSw; (try dsimp only at hSw); go_simp; try with_reducible rfl
           try simp only [pm, s0, sS]
           refine tkH 20 ?_ ⟨some 2, .assign (.tmp 84), 4, "l08_star.go:13", #[⟨19, .data⟩, ⟨18, .chain⟩, ⟨0, .phase⟩, ⟨1, .phase⟩, ⟨2, .phase⟩, ⟨3, .phase⟩, ⟨4, .phase⟩, ⟨5, .phase⟩, ⟨6, .phase⟩, ⟨7, .phase⟩, ⟨8, .phase⟩, ⟨9, .phase⟩, ⟨10, .phase⟩, ⟨11, .phase⟩, ⟨12, .phase⟩, ⟨13, .phase⟩, ⟨14, .phase⟩, ⟨15, .phase⟩, ⟨16, .phase⟩, ⟨17, .phase⟩, ⟨18, .phase⟩, ⟨19, .phase⟩], none⟩ ?_ ?_
           rotate_left
           · intro w9 hSw; (try dsimp only at hSw); go_simp; try with_reducible rfl
           try simp only [pm, s0, sS]
           refine wpAnyH_done (by kernel_rfl) ?_ _
           refine NoPanic.normal ?_
           go_wp2
           go_ret
           exact ⟨ret_bool HE.out, S_14.out.below⟩
         · have h3b : (0 : Int) < (k : Int) := by omega
           have h3c : 0 < k := by omega
           have HE := Lib.hid (show S.same (Fr.of 1) = ok by rw [← HOK.out, okC_end h1 (HG.out ▸ h2) HAC.out HAL.out, HSS.out])
           clear hk_c_0_3 hk_c_1_3 hk_c_2_3 hk_c_3_3 hk_c_4_3 hk_sum_0_3 hk_sum_0_3f hk_sum_1_3 hk_sum_1_3f hk_sum_2_3 hk_sum_2_3f
           have hk_c_0_14 := R_0.out.cell 1 0 rfl rfl
           have hk_c_1_14 := R_0.out.cell 1 1 rfl rfl
           have hk_c_2_14 := R_0.out.cell 1 2 rfl rfl
           have hk_c_3_14 := R_0.out.cell 1 3 rfl rfl
           have hk_c_4_14 := R_0.out.cell 1 4 rfl rfl
           have hk_sum_0_14 := R_0.out.cell 0 0 rfl rfl
           have hk_sum_1_14 := R_0.out.cell 0 1 rfl rfl
           have hk_sum_2_14 := R_0.out.cell 0 2 rfl rfl
           go_wp2
           clear hk_c_0_14 hk_c_1_14 hk_c_2_14 hk_c_3_14 hk_c_4_14 hk_sum_0_14 hk_sum_1_14 hk_sum_2_14
           have mkS_15 : ∀ (w' : World) (cs' : List Chunk), St w w' [(w1.heap.size, [.bool S.s, (.slice As ns cs), (.slice Bs ms ds)]), (w.heap.size, [.int .i64 N, .bool T.s, t0, t1, (.slice A k c)])] cs' → w'.cell? ⟨w1.heap.size, 0, none⟩ = some (.bool S.s) ∧ w'.cell? ⟨w1.heap.size, 1, none⟩ = some ((.slice As ns cs)) ∧ w'.cell? ⟨w1.heap.size, 2, none⟩ = some ((.slice Bs ms ds)) ∧ w'.cell? ⟨w.heap.size, 0, none⟩ = some (.int .i64 N) ∧ w'.cell? ⟨w.heap.size, 1, none⟩ = some (.bool T.s) ∧ w'.cell? ⟨w.heap.size, 2, none⟩ = some (t0) ∧ w'.cell? ⟨w.heap.size, 3, none⟩ = some (t1) ∧ w'.cell? ⟨w.heap.size, 4, none⟩ = some ((.slice A k c)) := fun w' cs' h => ⟨h.cell 0 0 rfl rfl, h.cell 0 1 rfl rfl, h.cell 0 2 rfl rfl, h.cell 1 0 rfl rfl, h.cell 1 1 rfl rfl, h.cell 1 2 rfl rfl, h.cell 1 3 rfl rfl, h.cell 1 4 rfl rfl⟩
           refine wp_region_noPanic ?_
           refine wp_region_held_drew (S := (fun w' => w'.cell? ⟨w1.heap.size, 0, none⟩ = some (.bool S.s) ∧ w'.cell? ⟨w1.heap.size, 1, none⟩ = some ((.slice As ns cs)) ∧ w'.cell? ⟨w1.heap.size, 2, none⟩ = some ((.slice Bs ms ds)) ∧ w'.cell? ⟨w.heap.size, 0, none⟩ = some (.int .i64 N) ∧ w'.cell? ⟨w.heap.size, 1, none⟩ = some (.bool T.s) ∧ w'.cell? ⟨w.heap.size, 2, none⟩ = some (t0) ∧ w'.cell? ⟨w.heap.size, 3, none⟩ = some (t1) ∧ w'.cell? ⟨w.heap.size, 4, none⟩ = some ((.slice A k c)))) (by kernel_rfl) ?_ (fun hHeld => ?_)
           · exact mkS_15 _ _ R_0.out.drew
           refine tkH 0 ?_ ⟨some 65, .fieldAddr 60 (.tmp 1) 0, 0, "l08_star.go:13", #[], none⟩ ?_ ?_
           rotate_left
           · intro w9 hSw; (try dsimp only at hSw); go_simp; try with_reducible rfl
           try simp only [pm, s0, sS]
           refine tkH 1 ?_ ⟨some 66, .load 3 (.tmp 65), 3, "l08_star.go:13", #[⟨0, .data⟩], none⟩ ?_ ?_
           rotate_left
           · intro w9 hSw; (try dsimp only at hSw); go_simp; try with_reducible rfl
           try simp only [pm, s0, sS]
           refine wpAnyH_ready (rs := [2]) (by kernel_rfl) (by simp) ?_
           refine AllReadyH.cons (o := ⟨some 67, .call { callee := .value (.func 32), args := #[.tmp 66, .const (Value.int IntKind.i64 1), .const (Value.int IntKind.i64 9)], argTypes := #[3, 3, 3] }, 4, "l08_star.go:13", #[⟨1, .data⟩], none⟩) rfl (fun K hK => ?_) AllReadyH.nil
           go_simp
           go_at_call 32
           refine (l01In_any N 1 9 _).mono ?_
           rintro e w9 ⟨rfl, hw⟩
           obtain rfl := hw.symm
           rw [HNI.out]
           refine hK.out _ _ (mkS_15 _ _ R_0.out.drew) (fun hHeld2 => ?_)
           clear hK K
           try simp only [pm, s0, sS]
           refine tkH 3 ?_ ⟨some 68, .move (.tmp 67), 4, "l08_star.go:13", #[⟨2, .data⟩, ⟨2, .chain⟩], none⟩ ?_ ?_
           rotate_left
           · intro w9 hSw; (try dsimp only at hSw); go_simp; try with_reducible rfl
           try simp only [pm, s0, sS]
           refine tkH 4 ?_ ⟨some 69, .fieldAddr 60 (.tmp 1) 1, 0, "l08_star.go:13", #[⟨3, .guard⟩], some (3, true)⟩ ?_ ?_
           rotate_left
           · intro w9 hSw; (try dsimp only at hSw); go_simp; try with_reducible rfl
           try simp only [pm, s0, sS]
           refine tkH 5 ?_ ⟨some 70, .load 37 (.tmp 69), 37, "l08_star.go:13", #[⟨4, .data⟩, ⟨3, .guard⟩], some (3, true)⟩ ?_ ?_
           rotate_left
           · intro w9 hSw; (try dsimp only at hSw); go_simp; try with_reducible rfl
           try simp only [pm, s0, sS]
           refine wpAnyH_ready (rs := [6]) (by kernel_rfl) (by simp) ?_
           refine AllReadyH.cons (o := ⟨some 71, .call { callee := .value (.func 53), args := #[.tmp 70], argTypes := #[37] }, 3, "l08_star.go:13", #[⟨5, .data⟩, ⟨3, .chain⟩, ⟨3, .guard⟩], some (3, true)⟩) rfl (fun K hK => ?_) AllReadyH.nil
           go_simp
           go_at_call 53
           refine (ratSign_s T t0 t1 _ (R_0.out.drew.frA HT.out)).mono ?_
           rintro e w5 ⟨rfl, hb⟩
           rw [HG.out] at ⊢
           have S_15 := Lib.hid (R_0.out.drew.call hb)
           clear R_0 hb
           refine hK.out _ _ (mkS_15 _ _ S_15.out) (fun hHeld6 => ?_)
           clear hK K
           try simp only [pm, s0, sS]
           refine tkH 7 ?_ ⟨some 72, .binOp .gtr 3 (.tmp 71) (.const (Value.int IntKind.i64 0)) 3, 4, "l08_star.go:13", #[⟨6, .data⟩, ⟨3, .guard⟩], some (3, true)⟩ ?_ ?_
           rotate_left
           · intro w9 hSw; (try dsimp only at hSw); go_simp; try with_reducible rfl
           try simp only [pm, s0, sS]
           refine tkH 8 ?_ ⟨some 73, .pick (.tmp 68) (.tmp 72) (.const (Value.bool false)), 4, "l08_star.go:13", #[⟨3, .data⟩, ⟨7, .data⟩], none⟩ ?_ ?_
           rotate_left
           · intro w9 hSw; (try dsimp only at hSw); go_simp; try with_reducible rfl
           try simp only [pm, s0, sS]
           refine tkH 9 ?_ ⟨some 74, .move (.tmp 73), 4, "l08_star.go:13", #[⟨8, .data⟩, ⟨6, .chain⟩], none⟩ ?_ ?_
           rotate_left
           · intro w9 hSw; (try dsimp only at hSw); go_simp; try with_reducible rfl
           try simp only [pm, s0, sS]
           refine tkH 10 ?_ ⟨some 75, .fieldAddr 60 (.tmp 1) 2, 0, "l08_star.go:13", #[⟨9, .guard⟩], some (9, true)⟩ ?_ ?_
           rotate_left
           · intro w9 hSw; (try dsimp only at hSw); go_simp; try with_reducible rfl
           try simp only [pm, s0, sS]
           refine tkH 11 ?_ ⟨some 76, .load 58 (.tmp 75), 58, "l08_star.go:13", #[⟨10, .data⟩, ⟨9, .guard⟩], some (9, true)⟩ ?_ ?_
           rotate_left
           · intro w9 hSw; (try dsimp only at hSw); go_simp; try with_reducible rfl
           try simp only [pm, s0, sS]
           refine tkH 12 ?_ ⟨some 77, .call { callee := .builtin .len, args := #[.tmp 76], argTypes := #[58] }, 3, "l08_star.go:13", #[⟨11, .data⟩, ⟨9, .guard⟩], some (9, true)⟩ ?_ ?_
           rotate_left
           · intro w9 hSw; (try dsimp only at hSw); go_simp; try with_reducible rfl
           try simp only [pm, s0, sS]
           refine tkH 13 ?_ ⟨some 78, .binOp .gtr 3 (.tmp 77) (.const (Value.int IntKind.i64 0)) 3, 4, "l08_star.go:13", #[⟨12, .data⟩, ⟨9, .guard⟩], some (9, true)⟩ ?_ ?_
           rotate_left
           · intro w9 hSw; (try dsimp only at hSw); go_simp; try with_reducible rfl
           try simp only [pm, s0, sS]
           refine tkH 14 ?_ ⟨some 79, .pick (.tmp 74) (.tmp 78) (.const (Value.bool false)), 4, "l08_star.go:13", #[⟨9, .data⟩, ⟨13, .data⟩], none⟩ ?_ ?_
           rotate_left
           · intro w9 hSw; (try dsimp only at hSw); go_simp; try with_reducible rfl
           try simp only [pm, s0, sS]
           refine tkH 15 ?_ ⟨some 80, .move (.tmp 79), 4, "l08_star.go:13", #[⟨14, .data⟩, ⟨9, .chain⟩], none⟩ ?_ ?_
           rotate_left
           · intro w9 hSw; (try dsimp only at hSw); go_simp; try with_reducible rfl
           try simp only [pm, s0, sS]
           refine tkH 16 ?_ ⟨some 81, .load 37 (.tmp 3), 37, "l08_star.go:13", #[⟨15, .guard⟩], some (15, true)⟩ ?_ ?_
           rotate_left
           · intro w9 hSw; (try dsimp only at hSw); go_simp; try with_reducible rfl
           try simp only [pm, s0, sS]
           refine wpAnyH_ready (rs := [17]) (by kernel_rfl) (by simp) ?_
           refine AllReadyH.cons (o := ⟨some 82, .call { callee := .value (.func 31), args := #[.const (Value.int IntKind.i64 1)], argTypes := #[3] }, 37, "l08_star.go:13", #[⟨15, .chain⟩, ⟨15, .guard⟩], some (15, true)⟩) rfl (fun K hK => ?_) AllReadyH.nil
           go_simp
           go_at_call 31
           refine (ratFromInt_s 1 _ (by decide)).mono ?_
           rintro e w6 ⟨vuno, uuno, rfl, ho, hb⟩
           obtain ⟨Auno, nuno, cuno, rfl⟩ := (ho.at_ 0 rfl).shape3
           obtain ⟨Buno, muno, duno, rfl⟩ := (ho.at_ 1 rfl).shape3
           have S_16 := Lib.hid (S_15.out.rows ho hb)
           clear S_15 ho hb
           refine hK.out _ _ (mkS_15 _ _ S_16.out) (fun hHeld17 => ?_)
           clear hK K
           try simp only [pm, s0, sS]
           refine wpAnyH_ready (rs := [18]) (by kernel_rfl) (by simp) ?_
           refine AllReadyH.cons (o := ⟨some 83, .call { callee := .value (.func 54), args := #[.tmp 81, .tmp 82], argTypes := #[37, 37] }, 4, "l08_star.go:13", #[⟨16, .data⟩, ⟨17, .data⟩, ⟨17, .chain⟩, ⟨15, .guard⟩], some (15, true)⟩) rfl (fun K hK => ?_) AllReadyH.nil
           go_simp
           go_at_call 54
           refine (ratEqual_s S (Fr.of 1) (.slice As ns cs) (.slice Bs ms ds) (.slice Auno nuno cuno) (.slice Buno muno duno) _ (S_16.out.fr 1 0 rfl rfl rfl) (S_16.out.fr 0 0 rfl rfl rfl)).mono ?_
           rintro e w7 ⟨rfl, hb⟩
           have S_17 := Lib.hid (S_16.out.call hb)
           clear S_16 hb
           refine hK.out _ _ (mkS_15 _ _ S_17.out) (fun hHeld18 => ?_)
           clear hK K
           try simp only [pm, s0, sS]
           refine tkH 19 ?_ ⟨some 84, .pick (.tmp 80) (.tmp 83) (.const (Value.bool false)), 4, "l08_star.go:13", #[⟨15, .data⟩, ⟨18, .data⟩], none⟩ ?_ ?_
           rotate_left
           · intro w9 hSw; (try dsimp only at hSw); go_simp; try with_reducible rfl
           try simp only [pm, s0, sS]
           refine tkH 20 ?_ ⟨some 2, .assign (.tmp 84), 4, "l08_star.go:13", #[⟨19, .data⟩, ⟨18, .chain⟩, ⟨0, .phase⟩, ⟨1, .phase⟩, ⟨2, .phase⟩, ⟨3, .phase⟩, ⟨4, .phase⟩, ⟨5, .phase⟩, ⟨6, .phase⟩, ⟨7, .phase⟩, ⟨8, .phase⟩, ⟨9, .phase⟩, ⟨10, .phase⟩, ⟨11, .phase⟩, ⟨12, .phase⟩, ⟨13, .phase⟩, ⟨14, .phase⟩, ⟨15, .phase⟩, ⟨16, .phase⟩, ⟨17, .phase⟩, ⟨18, .phase⟩, ⟨19, .phase⟩], none⟩ ?_ ?_
           rotate_left
           · intro w9 hSw; (try dsimp only at hSw); go_simp; try with_reducible rfl
           try simp only [pm, s0, sS]
           refine wpAnyH_done (by kernel_rfl) ?_ _
           refine NoPanic.normal ?_
           go_wp2
           go_ret
           exact ⟨ret_bool HE.out, S_17.out.below⟩
       · have h2b : decide (0 < g) = false := decide_eq_false h2
         have HE := Lib.hid (show false = ok by rw [← HOK.out]; exact (okC_no (.inr (.inl (HG.out ▸ h2)))).symm)
         clear hk_c_0_3 hk_c_1_3 hk_c_2_3 hk_c_3_3 hk_c_4_3 hk_sum_0_3 hk_sum_0_3f hk_sum_1_3 hk_sum_1_3f hk_sum_2_3 hk_sum_2_3f
         have hk_c_0_15 := R_0.out.cell 1 0 rfl rfl
         have hk_c_1_15 := R_0.out.cell 1 1 rfl rfl
         have hk_c_2_15 := R_0.out.cell 1 2 rfl rfl
         have hk_c_3_15 := R_0.out.cell 1 3 rfl rfl
         have hk_c_4_15 := R_0.out.cell 1 4 rfl rfl
         have hk_sum_0_15 := R_0.out.cell 0 0 rfl rfl
         have hk_sum_1_15 := R_0.out.cell 0 1 rfl rfl
         have hk_sum_2_15 := R_0.out.cell 0 2 rfl rfl
         go_wp2
         clear hk_c_0_15 hk_c_1_15 hk_c_2_15 hk_c_3_15 hk_c_4_15 hk_sum_0_15 hk_sum_1_15 hk_sum_2_15
         have mkS_16 : ∀ (w' : World) (cs' : List Chunk), St w w' [(w1.heap.size, [.bool S.s, (.slice As ns cs), (.slice Bs ms ds)]), (w.heap.size, [.int .i64 N, .bool T.s, t0, t1, (.slice A k c)])] cs' → w'.cell? ⟨w1.heap.size, 0, none⟩ = some (.bool S.s) ∧ w'.cell? ⟨w1.heap.size, 1, none⟩ = some ((.slice As ns cs)) ∧ w'.cell? ⟨w1.heap.size, 2, none⟩ = some ((.slice Bs ms ds)) ∧ w'.cell? ⟨w.heap.size, 0, none⟩ = some (.int .i64 N) ∧ w'.cell? ⟨w.heap.size, 1, none⟩ = some (.bool T.s) ∧ w'.cell? ⟨w.heap.size, 2, none⟩ = some (t0) ∧ w'.cell? ⟨w.heap.size, 3, none⟩ = some (t1) ∧ w'.cell? ⟨w.heap.size, 4, none⟩ = some ((.slice A k c)) := fun w' cs' h => ⟨h.cell 0 0 rfl rfl, h.cell 0 1 rfl rfl, h.cell 0 2 rfl rfl, h.cell 1 0 rfl rfl, h.cell 1 1 rfl rfl, h.cell 1 2 rfl rfl, h.cell 1 3 rfl rfl, h.cell 1 4 rfl rfl⟩
         refine wp_region_noPanic ?_
         refine wp_region_held_drew (S := (fun w' => w'.cell? ⟨w1.heap.size, 0, none⟩ = some (.bool S.s) ∧ w'.cell? ⟨w1.heap.size, 1, none⟩ = some ((.slice As ns cs)) ∧ w'.cell? ⟨w1.heap.size, 2, none⟩ = some ((.slice Bs ms ds)) ∧ w'.cell? ⟨w.heap.size, 0, none⟩ = some (.int .i64 N) ∧ w'.cell? ⟨w.heap.size, 1, none⟩ = some (.bool T.s) ∧ w'.cell? ⟨w.heap.size, 2, none⟩ = some (t0) ∧ w'.cell? ⟨w.heap.size, 3, none⟩ = some (t1) ∧ w'.cell? ⟨w.heap.size, 4, none⟩ = some ((.slice A k c)))) (by kernel_rfl) ?_ (fun hHeld => ?_)
         · exact mkS_16 _ _ R_0.out.drew
         refine tkH 0 ?_ ⟨some 65, .fieldAddr 60 (.tmp 1) 0, 0, "l08_star.go:13", #[], none⟩ ?_ ?_
         rotate_left
         · intro w9 hSw; (try dsimp only at hSw); go_simp; try with_reducible rfl
         try simp only [pm, s0, sS]
         refine tkH 1 ?_ ⟨some 66, .load 3 (.tmp 65), 3, "l08_star.go:13", #[⟨0, .data⟩], none⟩ ?_ ?_
         rotate_left
         · intro w9 hSw; (try dsimp only at hSw); go_simp; try with_reducible rfl
         try simp only [pm, s0, sS]
         refine wpAnyH_ready (rs := [2]) (by kernel_rfl) (by simp) ?_
         refine AllReadyH.cons (o := ⟨some 67, .call { callee := .value (.func 32), args := #[.tmp 66, .const (Value.int IntKind.i64 1), .const (Value.int IntKind.i64 9)], argTypes := #[3, 3, 3] }, 4, "l08_star.go:13", #[⟨1, .data⟩], none⟩) rfl (fun K hK => ?_) AllReadyH.nil
         go_simp
         go_at_call 32
         refine (l01In_any N 1 9 _).mono ?_
         rintro e w9 ⟨rfl, hw⟩
         obtain rfl := hw.symm
         rw [HNI.out]
         refine hK.out _ _ (mkS_16 _ _ R_0.out.drew) (fun hHeld2 => ?_)
         clear hK K
         try simp only [pm, s0, sS]
         refine tkH 3 ?_ ⟨some 68, .move (.tmp 67), 4, "l08_star.go:13", #[⟨2, .data⟩, ⟨2, .chain⟩], none⟩ ?_ ?_
         rotate_left
         · intro w9 hSw; (try dsimp only at hSw); go_simp; try with_reducible rfl
         try simp only [pm, s0, sS]
         refine tkH 4 ?_ ⟨some 69, .fieldAddr 60 (.tmp 1) 1, 0, "l08_star.go:13", #[⟨3, .guard⟩], some (3, true)⟩ ?_ ?_
         rotate_left
         · intro w9 hSw; (try dsimp only at hSw); go_simp; try with_reducible rfl
         try simp only [pm, s0, sS]
         refine tkH 5 ?_ ⟨some 70, .load 37 (.tmp 69), 37, "l08_star.go:13", #[⟨4, .data⟩, ⟨3, .guard⟩], some (3, true)⟩ ?_ ?_
         rotate_left
         · intro w9 hSw; (try dsimp only at hSw); go_simp; try with_reducible rfl
         try simp only [pm, s0, sS]
         refine wpAnyH_ready (rs := [6]) (by kernel_rfl) (by simp) ?_
         refine AllReadyH.cons (o := ⟨some 71, .call { callee := .value (.func 53), args := #[.tmp 70], argTypes := #[37] }, 3, "l08_star.go:13", #[⟨5, .data⟩, ⟨3, .chain⟩, ⟨3, .guard⟩], some (3, true)⟩) rfl (fun K hK => ?_) AllReadyH.nil
         go_simp
         go_at_call 53
         refine (ratSign_s T t0 t1 _ (R_0.out.drew.frA HT.out)).mono ?_
         rintro e w5 ⟨rfl, hb⟩
         rw [HG.out] at ⊢
         have S_16 := Lib.hid (R_0.out.drew.call hb)
         clear R_0 hb
         refine hK.out _ _ (mkS_16 _ _ S_16.out) (fun hHeld6 => ?_)
         clear hK K
         try simp only [pm, s0, sS]
         refine tkH 7 ?_ ⟨some 72, .binOp .gtr 3 (.tmp 71) (.const (Value.int IntKind.i64 0)) 3, 4, "l08_star.go:13", #[⟨6, .data⟩, ⟨3, .guard⟩], some (3, true)⟩ ?_ ?_
         rotate_left
         · intro w9 hSw; (try dsimp only at hSw); go_simp; try with_reducible rfl
         try simp only [pm, s0, sS]
         refine tkH 8 ?_ ⟨some 73, .pick (.tmp 68) (.tmp 72) (.const (Value.bool false)), 4, "l08_star.go:13", #[⟨3, .data⟩, ⟨7, .data⟩], none⟩ ?_ ?_
         rotate_left
         · intro w9 hSw; (try dsimp only at hSw); go_simp; try with_reducible rfl
         try simp only [pm, s0, sS]
         refine tkH 9 ?_ ⟨some 74, .move (.tmp 73), 4, "l08_star.go:13", #[⟨8, .data⟩, ⟨6, .chain⟩], none⟩ ?_ ?_
         rotate_left
         · intro w9 hSw; (try dsimp only at hSw); go_simp; try with_reducible rfl
         try simp only [pm, s0, sS]
         refine tkN 10 ⟨some 75, .fieldAddr 60 (.tmp 1) 2, 0, "l08_star.go:13", #[⟨9, .guard⟩], some (9, true)⟩ ?_
         try simp only [pm, s0, sS]
         refine tkN 11 ⟨some 76, .load 58 (.tmp 75), 58, "l08_star.go:13", #[⟨10, .data⟩, ⟨9, .guard⟩], some (9, true)⟩ ?_
         try simp only [pm, s0, sS]
         refine tkN 12 ⟨some 77, .call { callee := .builtin .len, args := #[.tmp 76], argTypes := #[58] }, 3, "l08_star.go:13", #[⟨11, .data⟩, ⟨9, .guard⟩], some (9, true)⟩ ?_
         try simp only [pm, s0, sS]
         refine tkN 13 ⟨some 78, .binOp .gtr 3 (.tmp 77) (.const (Value.int IntKind.i64 0)) 3, 4, "l08_star.go:13", #[⟨12, .data⟩, ⟨9, .guard⟩], some (9, true)⟩ ?_
         try simp only [pm, s0, sS]
         refine tkH 14 ?_ ⟨some 79, .pick (.tmp 74) (.tmp 78) (.const (Value.bool false)), 4, "l08_star.go:13", #[⟨9, .data⟩, ⟨13, .data⟩], none⟩ ?_ ?_
         rotate_left
         · intro w9 hSw; (try dsimp only at hSw); go_simp; try with_reducible rfl
         try simp only [pm, s0, sS]
         refine tkH 15 ?_ ⟨some 80, .move (.tmp 79), 4, "l08_star.go:13", #[⟨14, .data⟩, ⟨9, .chain⟩], none⟩ ?_ ?_
         rotate_left
         · intro w9 hSw; (try dsimp only at hSw); go_simp; try with_reducible rfl
         try simp only [pm, s0, sS]
         refine tkN 16 ⟨some 81, .load 37 (.tmp 3), 37, "l08_star.go:13", #[⟨15, .guard⟩], some (15, true)⟩ ?_
         try simp only [pm, s0, sS]
         refine wpAnyH_ready (rs := [17]) (by kernel_rfl) (by simp) ?_
         refine AllReadyH.cons (o := ⟨some 82, .call { callee := .value (.func 31), args := #[.const (Value.int IntKind.i64 1)], argTypes := #[3] }, 37, "l08_star.go:13", #[⟨15, .chain⟩, ⟨15, .guard⟩], some (15, true)⟩) rfl (fun K hK => ?_) AllReadyH.nil
         go_simp
         refine hK.out _ _ (mkS_16 _ _ S_16.out) (fun hHeld17 => ?_)
         clear hK K
         try simp only [pm, s0, sS]
         refine wpAnyH_ready (rs := [18]) (by kernel_rfl) (by simp) ?_
         refine AllReadyH.cons (o := ⟨some 83, .call { callee := .value (.func 54), args := #[.tmp 81, .tmp 82], argTypes := #[37, 37] }, 4, "l08_star.go:13", #[⟨16, .data⟩, ⟨17, .data⟩, ⟨17, .chain⟩, ⟨15, .guard⟩], some (15, true)⟩) rfl (fun K hK => ?_) AllReadyH.nil
         go_simp
         refine hK.out _ _ (mkS_16 _ _ S_16.out) (fun hHeld18 => ?_)
         clear hK K
         try simp only [pm, s0, sS]
         refine tkH 19 ?_ ⟨some 84, .pick (.tmp 80) (.tmp 83) (.const (Value.bool false)), 4, "l08_star.go:13", #[⟨15, .data⟩, ⟨18, .data⟩], none⟩ ?_ ?_
         rotate_left
         · intro w9 hSw; (try dsimp only at hSw); go_simp; try with_reducible rfl
         try simp only [pm, s0, sS]
         refine tkH 20 ?_ ⟨some 2, .assign (.tmp 84), 4, "l08_star.go:13", #[⟨19, .data⟩, ⟨18, .chain⟩, ⟨0, .phase⟩, ⟨1, .phase⟩, ⟨2, .phase⟩, ⟨3, .phase⟩, ⟨4, .phase⟩, ⟨5, .phase⟩, ⟨6, .phase⟩, ⟨7, .phase⟩, ⟨8, .phase⟩, ⟨9, .phase⟩, ⟨10, .phase⟩, ⟨11, .phase⟩, ⟨12, .phase⟩, ⟨13, .phase⟩, ⟨14, .phase⟩, ⟨15, .phase⟩, ⟨16, .phase⟩, ⟨17, .phase⟩, ⟨18, .phase⟩, ⟨19, .phase⟩], none⟩ ?_ ?_
         rotate_left
         · intro w9 hSw; (try dsimp only at hSw); go_simp; try with_reducible rfl
         try simp only [pm, s0, sS]
         refine wpAnyH_done (by kernel_rfl) ?_ _
         refine NoPanic.normal ?_
         go_wp2
         go_ret
         exact ⟨ret_bool HE.out, S_16.out.below⟩
     · have HNI := Lib.hid (decide_eq_false h1)
       have HE := Lib.hid (show false = ok by rw [← HOK.out]; exact (okC_no (.inl h1)).symm)
       clear hk_c_0_3 hk_c_1_3 hk_c_2_3 hk_c_3_3 hk_c_4_3 hk_sum_0_3 hk_sum_0_3f hk_sum_1_3 hk_sum_1_3f hk_sum_2_3 hk_sum_2_3f
       have hk_c_0_16 := R_0.out.cell 1 0 rfl rfl
       have hk_c_1_16 := R_0.out.cell 1 1 rfl rfl
       have hk_c_2_16 := R_0.out.cell 1 2 rfl rfl
       have hk_c_3_16 := R_0.out.cell 1 3 rfl rfl
       have hk_c_4_16 := R_0.out.cell 1 4 rfl rfl
       have hk_sum_0_16 := R_0.out.cell 0 0 rfl rfl
       have hk_sum_1_16 := R_0.out.cell 0 1 rfl rfl
       have hk_sum_2_16 := R_0.out.cell 0 2 rfl rfl
       go_wp2
       clear hk_c_0_16 hk_c_1_16 hk_c_2_16 hk_c_3_16 hk_c_4_16 hk_sum_0_16 hk_sum_1_16 hk_sum_2_16
       have mkS_17 : ∀ (w' : World) (cs' : List Chunk), St w w' [(w1.heap.size, [.bool S.s, (.slice As ns cs), (.slice Bs ms ds)]), (w.heap.size, [.int .i64 N, .bool T.s, t0, t1, (.slice A k c)])] cs' → w'.cell? ⟨w1.heap.size, 0, none⟩ = some (.bool S.s) ∧ w'.cell? ⟨w1.heap.size, 1, none⟩ = some ((.slice As ns cs)) ∧ w'.cell? ⟨w1.heap.size, 2, none⟩ = some ((.slice Bs ms ds)) ∧ w'.cell? ⟨w.heap.size, 0, none⟩ = some (.int .i64 N) ∧ w'.cell? ⟨w.heap.size, 1, none⟩ = some (.bool T.s) ∧ w'.cell? ⟨w.heap.size, 2, none⟩ = some (t0) ∧ w'.cell? ⟨w.heap.size, 3, none⟩ = some (t1) ∧ w'.cell? ⟨w.heap.size, 4, none⟩ = some ((.slice A k c)) := fun w' cs' h => ⟨h.cell 0 0 rfl rfl, h.cell 0 1 rfl rfl, h.cell 0 2 rfl rfl, h.cell 1 0 rfl rfl, h.cell 1 1 rfl rfl, h.cell 1 2 rfl rfl, h.cell 1 3 rfl rfl, h.cell 1 4 rfl rfl⟩
       refine wp_region_noPanic ?_
       refine wp_region_held_drew (S := (fun w' => w'.cell? ⟨w1.heap.size, 0, none⟩ = some (.bool S.s) ∧ w'.cell? ⟨w1.heap.size, 1, none⟩ = some ((.slice As ns cs)) ∧ w'.cell? ⟨w1.heap.size, 2, none⟩ = some ((.slice Bs ms ds)) ∧ w'.cell? ⟨w.heap.size, 0, none⟩ = some (.int .i64 N) ∧ w'.cell? ⟨w.heap.size, 1, none⟩ = some (.bool T.s) ∧ w'.cell? ⟨w.heap.size, 2, none⟩ = some (t0) ∧ w'.cell? ⟨w.heap.size, 3, none⟩ = some (t1) ∧ w'.cell? ⟨w.heap.size, 4, none⟩ = some ((.slice A k c)))) (by kernel_rfl) ?_ (fun hHeld => ?_)
       · exact mkS_17 _ _ R_0.out.drew
       refine tkH 0 ?_ ⟨some 65, .fieldAddr 60 (.tmp 1) 0, 0, "l08_star.go:13", #[], none⟩ ?_ ?_
       rotate_left
       · intro w9 hSw; (try dsimp only at hSw); go_simp; try with_reducible rfl
       try simp only [pm, s0, sS]
       refine tkH 1 ?_ ⟨some 66, .load 3 (.tmp 65), 3, "l08_star.go:13", #[⟨0, .data⟩], none⟩ ?_ ?_
       rotate_left
       · intro w9 hSw; (try dsimp only at hSw); go_simp; try with_reducible rfl
       try simp only [pm, s0, sS]
       refine wpAnyH_ready (rs := [2]) (by kernel_rfl) (by simp) ?_
       refine AllReadyH.cons (o := ⟨some 67, .call { callee := .value (.func 32), args := #[.tmp 66, .const (Value.int IntKind.i64 1), .const (Value.int IntKind.i64 9)], argTypes := #[3, 3, 3] }, 4, "l08_star.go:13", #[⟨1, .data⟩], none⟩) rfl (fun K hK => ?_) AllReadyH.nil
       go_simp
       go_at_call 32
       refine (l01In_any N 1 9 _).mono ?_
       rintro e w9 ⟨rfl, hw⟩
       obtain rfl := hw.symm
       rw [HNI.out]
       refine hK.out _ _ (mkS_17 _ _ R_0.out.drew) (fun hHeld2 => ?_)
       clear hK K
       try simp only [pm, s0, sS]
       refine tkH 3 ?_ ⟨some 68, .move (.tmp 67), 4, "l08_star.go:13", #[⟨2, .data⟩, ⟨2, .chain⟩], none⟩ ?_ ?_
       rotate_left
       · intro w9 hSw; (try dsimp only at hSw); go_simp; try with_reducible rfl
       try simp only [pm, s0, sS]
       refine tkN 4 ⟨some 69, .fieldAddr 60 (.tmp 1) 1, 0, "l08_star.go:13", #[⟨3, .guard⟩], some (3, true)⟩ ?_
       try simp only [pm, s0, sS]
       refine tkN 5 ⟨some 70, .load 37 (.tmp 69), 37, "l08_star.go:13", #[⟨4, .data⟩, ⟨3, .guard⟩], some (3, true)⟩ ?_
       try simp only [pm, s0, sS]
       refine wpAnyH_ready (rs := [6]) (by kernel_rfl) (by simp) ?_
       refine AllReadyH.cons (o := ⟨some 71, .call { callee := .value (.func 53), args := #[.tmp 70], argTypes := #[37] }, 3, "l08_star.go:13", #[⟨5, .data⟩, ⟨3, .chain⟩, ⟨3, .guard⟩], some (3, true)⟩) rfl (fun K hK => ?_) AllReadyH.nil
       go_simp
       refine hK.out _ _ (mkS_17 _ _ R_0.out.drew) (fun hHeld6 => ?_)
       clear hK K
       try simp only [pm, s0, sS]
       refine tkN 7 ⟨some 72, .binOp .gtr 3 (.tmp 71) (.const (Value.int IntKind.i64 0)) 3, 4, "l08_star.go:13", #[⟨6, .data⟩, ⟨3, .guard⟩], some (3, true)⟩ ?_
       try simp only [pm, s0, sS]
       refine tkH 8 ?_ ⟨some 73, .pick (.tmp 68) (.tmp 72) (.const (Value.bool false)), 4, "l08_star.go:13", #[⟨3, .data⟩, ⟨7, .data⟩], none⟩ ?_ ?_
       rotate_left
       · intro w9 hSw; (try dsimp only at hSw); go_simp; try with_reducible rfl
       try simp only [pm, s0, sS]
       refine tkH 9 ?_ ⟨some 74, .move (.tmp 73), 4, "l08_star.go:13", #[⟨8, .data⟩, ⟨6, .chain⟩], none⟩ ?_ ?_
       rotate_left
       · intro w9 hSw; (try dsimp only at hSw); go_simp; try with_reducible rfl
       try simp only [pm, s0, sS]
       refine tkN 10 ⟨some 75, .fieldAddr 60 (.tmp 1) 2, 0, "l08_star.go:13", #[⟨9, .guard⟩], some (9, true)⟩ ?_
       try simp only [pm, s0, sS]
       refine tkN 11 ⟨some 76, .load 58 (.tmp 75), 58, "l08_star.go:13", #[⟨10, .data⟩, ⟨9, .guard⟩], some (9, true)⟩ ?_
       try simp only [pm, s0, sS]
       refine tkN 12 ⟨some 77, .call { callee := .builtin .len, args := #[.tmp 76], argTypes := #[58] }, 3, "l08_star.go:13", #[⟨11, .data⟩, ⟨9, .guard⟩], some (9, true)⟩ ?_
       try simp only [pm, s0, sS]
       refine tkN 13 ⟨some 78, .binOp .gtr 3 (.tmp 77) (.const (Value.int IntKind.i64 0)) 3, 4, "l08_star.go:13", #[⟨12, .data⟩, ⟨9, .guard⟩], some (9, true)⟩ ?_
       try simp only [pm, s0, sS]
       refine tkH 14 ?_ ⟨some 79, .pick (.tmp 74) (.tmp 78) (.const (Value.bool false)), 4, "l08_star.go:13", #[⟨9, .data⟩, ⟨13, .data⟩], none⟩ ?_ ?_
       rotate_left
       · intro w9 hSw; (try dsimp only at hSw); go_simp; try with_reducible rfl
       try simp only [pm, s0, sS]
       refine tkH 15 ?_ ⟨some 80, .move (.tmp 79), 4, "l08_star.go:13", #[⟨14, .data⟩, ⟨9, .chain⟩], none⟩ ?_ ?_
       rotate_left
       · intro w9 hSw; (try dsimp only at hSw); go_simp; try with_reducible rfl
       try simp only [pm, s0, sS]
       refine tkN 16 ⟨some 81, .load 37 (.tmp 3), 37, "l08_star.go:13", #[⟨15, .guard⟩], some (15, true)⟩ ?_
       try simp only [pm, s0, sS]
       refine wpAnyH_ready (rs := [17]) (by kernel_rfl) (by simp) ?_
       refine AllReadyH.cons (o := ⟨some 82, .call { callee := .value (.func 31), args := #[.const (Value.int IntKind.i64 1)], argTypes := #[3] }, 37, "l08_star.go:13", #[⟨15, .chain⟩, ⟨15, .guard⟩], some (15, true)⟩) rfl (fun K hK => ?_) AllReadyH.nil
       go_simp
       refine hK.out _ _ (mkS_17 _ _ R_0.out.drew) (fun hHeld17 => ?_)
       clear hK K
       try simp only [pm, s0, sS]
       refine wpAnyH_ready (rs := [18]) (by kernel_rfl) (by simp) ?_
       refine AllReadyH.cons (o := ⟨some 83, .call { callee := .value (.func 54), args := #[.tmp 81, .tmp 82], argTypes := #[37, 37] }, 4, "l08_star.go:13", #[⟨16, .data⟩, ⟨17, .data⟩, ⟨17, .chain⟩, ⟨15, .guard⟩], some (15, true)⟩) rfl (fun K hK => ?_) AllReadyH.nil
       go_simp
       refine hK.out _ _ (mkS_17 _ _ R_0.out.drew) (fun hHeld18 => ?_)
       clear hK K
       try simp only [pm, s0, sS]
       refine tkH 19 ?_ ⟨some 84, .pick (.tmp 80) (.tmp 83) (.const (Value.bool false)), 4, "l08_star.go:13", #[⟨15, .data⟩, ⟨18, .data⟩], none⟩ ?_ ?_
       rotate_left
       · intro w9 hSw; (try dsimp only at hSw); go_simp; try with_reducible rfl
       try simp only [pm, s0, sS]
       refine tkH 20 ?_ ⟨some 2, .assign (.tmp 84), 4, "l08_star.go:13", #[⟨19, .data⟩, ⟨18, .chain⟩, ⟨0, .phase⟩, ⟨1, .phase⟩, ⟨2, .phase⟩, ⟨3, .phase⟩, ⟨4, .phase⟩, ⟨5, .phase⟩, ⟨6, .phase⟩, ⟨7, .phase⟩, ⟨8, .phase⟩, ⟨9, .phase⟩, ⟨10, .phase⟩, ⟨11, .phase⟩, ⟨12, .phase⟩, ⟨13, .phase⟩, ⟨14, .phase⟩, ⟨15, .phase⟩, ⟨16, .phase⟩, ⟨17, .phase⟩, ⟨18, .phase⟩, ⟨19, .phase⟩], none⟩ ?_ ?_
       rotate_left
       · intro w9 hSw; (try dsimp only at hSw); go_simp; try with_reducible rfl
       try simp only [pm, s0, sS]
       refine wpAnyH_done (by kernel_rfl) ?_ _
       refine NoPanic.normal ?_
       go_wp2
       go_ret
       exact ⟨ret_bool HE.out, R_0.out.drew.below⟩
end Go.Proofs.YtaboodioabopnaaGreat
