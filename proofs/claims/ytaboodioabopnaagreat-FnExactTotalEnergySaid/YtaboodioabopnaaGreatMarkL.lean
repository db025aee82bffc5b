/- Slices of links: markLinkS and heldLinkS. Conditions: none. -/
import Derived.Test.YtaboodioabopnaaGreatMarkMath
import Derived.Test.YtaboodioabopnaaGreatIsSet
namespace Go.Proofs.YtaboodioabopnaaGreat
open Go.RowKit Nt Fr
set_option linter.unusedVariables false

theorem mod3 {x : Int} {k : Nat} (h : x = (k : Int)) : (x % 3 == 0) = (k % 3 == 0) := by
  subst h
  by_cases h : k % 3 = 0
  · rw [h, show (k : Int) % 3 = 0 by omega]; rfl
  · have h1 : ((k : Int) % 3 == 0) = false := by rw [beq_eq_false_iff_ne]; omega
    have h2 : (k % 3 == 0) = false := by rw [beq_eq_false_iff_ne]; exact h
    rw [h1, h2]
theorem markLs_at {k : Nat} {zs : List Lr} {j : Nat} {z : Lr} (h : zs[j]? = some z) : (markLs k zs)[j]? = some (markLr (markAt k zs j) z) := by
  obtain ⟨hj, e⟩ := List.getElem?_eq_some_iff.mp h
  have hl : (markLs k (zs.take j)).length = j := by rw [markLs_length, List.length_take]; omega
  have ht : (zs.take j).length = j := by rw [List.length_take]; omega
  have hs : zs = zs.take j ++ z :: zs.drop (j + 1) := by rw [← e, ← List.drop_eq_getElem_cons hj, List.take_append_drop]
  have hm : markLs k zs = markLs k (zs.take j) ++ markLs (markAt k zs j) (z :: zs.drop (j + 1)) := by
    have := markLs_app k (zs.take j) (z :: zs.drop (j + 1))
    rw [← hs, ht] at this
    exact this
  rw [hm, List.getElem?_append_right (by omega), hl, Nat.sub_self]
  rfl
theorem set_self {α : Type} {l : List α} {i : Nat} {x y : α} (h : l[i]? = some x) : (l.set i y)[i]? = some y := by
  have := (List.getElem?_eq_some_iff.mp h).1
  simp [this]
set_option maxRecDepth 100000 in
set_option maxHeartbeats 4000000 in
theorem markLinkS_f (b n c k : Nat) (K : Int) (hK : K = (k : Int)) (zs : List Lr) (w0 w : World) (bs : List (Nat × List Value)) (cs : List Chunk) (hl : zs.length = n) (hS : St w0 w ((b, cellsL zs) :: bs) (rowsL zs :: cs)) (hn : k + 5 * n + lensL zs ≤ 1073741824) :
    Calls Tryz.prog 19 #[.slice (some ⟨b, 0, none⟩) n c, .int .i64 K] w fun e w' => e = .returned (.int .i64 ((k + 5 * n + lensL zs : Nat) : Int)) ∧ St w0 w' ((b, cellsL (markLs k zs)) :: bs) (rowsL (markLs k zs) :: cs) := by
  subst hK
  have HL := Lib.hid hl
  have HS := Lib.hid hS
  have HN := Lib.hid hn
  have hn1 : n ≤ 1073741824 := by omega
  clear hl hS hn
  go_enter Tryz.func19, Tryz.ntmps19
  go_wp2
  go_loopw [1, 5] (fun kk i wr => ∃ j q : Nat, j ≤ n ∧ i = .int .i64 j ∧ kk = .int .i64 (q : Int) ∧ q = markAt k zs j ∧ St w0 wr ((b, cellsL (markTo k zs j)) :: bs) (rowsL (markTo k zs j) :: cs)) (fun _ i _ => n - (intOf i).toNat)
  case atStart => exact ⟨0, k, Nat.zero_le _, rfl, rfl, by simp [markAt, lensL], by rw [markTo_zero]; exact HS.out⟩
  case round =>
    obtain ⟨j, q, hj, rfl, rfl, hq, hst⟩ := hrel
    have S_0 := Lib.hid hst
    have HQ := Lib.hid hq
    clear hst hq
    by_cases hlt : j < n
    · obtain ⟨z, hz⟩ : ∃ z, zs[j]? = some z := ⟨_, List.getElem?_eq_getElem (by have := HL.out; omega)⟩
      have hT := markTo_at (k := k) hz
      obtain ⟨ZA, ZB, ZP, ZQ, ZR, a0, n0, d0, a1, n1, d1, a2, n2, d2, a3, n3, d3, a4, n4, d4, a5, n5, d5, rfl⟩ := LArg.shapes (LkI_A (S_0.out.own 0 rfl) z (List.mem_of_getElem? hT))
      have HZ := Lib.hid hz
      have HT := Lib.hid hT
      have HQ2 := Lib.hid (markAt_succ (k := k) hz)
      have hqb : q + 5 + (ZP.len + ZQ.len + ZR.len) ≤ 1073741824 := by
        have h1 := markAt_le k zs (j + 1) (by have := HL.out; omega)
        have h2 := HQ2.out
        have h3 := HQ.out
        have h4 := HN.out
        have h5 := HL.out
        simp only [Lr.len] at h2
        omega
      have hl0 : n0 = ZP.xs.length := by have h : (ints ZP.xs).length = n0 := ((S_0.out.own 0 rfl).at_ (j * 6 + 0) (rowsL_at HT.out 0 rfl)).len; rw [ints_len] at h; omega
      have hl1 : n1 = ZP.ys.length := by have h : (ints ZP.ys).length = n1 := ((S_0.out.own 0 rfl).at_ (j * 6 + 1) (rowsL_at HT.out 1 rfl)).len; rw [ints_len] at h; omega
      have hl2 : n2 = ZQ.xs.length := by have h : (ints ZQ.xs).length = n2 := ((S_0.out.own 0 rfl).at_ (j * 6 + 2) (rowsL_at HT.out 2 rfl)).len; rw [ints_len] at h; omega
      have hl3 : n3 = ZQ.ys.length := by have h : (ints ZQ.ys).length = n3 := ((S_0.out.own 0 rfl).at_ (j * 6 + 3) (rowsL_at HT.out 3 rfl)).len; rw [ints_len] at h; omega
      have hl4 : n4 = ZR.xs.length := by have h : (ints ZR.xs).length = n4 := ((S_0.out.own 0 rfl).at_ (j * 6 + 4) (rowsL_at HT.out 4 rfl)).len; rw [ints_len] at h; omega
      have hl5 : n5 = ZR.ys.length := by have h : (ints ZR.ys).length = n5 := ((S_0.out.own 0 rfl).at_ (j * 6 + 5) (rowsL_at HT.out 5 rfl)).len; rw [ints_len] at h; omega
      have hPl : ZP.len = n0 + n1 := by simp only [Fr.len]; omega
      have hQl : ZQ.len = n2 + n3 := by simp only [Fr.len]; omega
      have hRl : ZR.len = n4 + n5 := by simp only [Fr.len]; omega
      rw [hPl, hQl, hRl] at hqb
      obtain ⟨T, hTT⟩ : ∃ T, markTo k zs j = T := ⟨_, rfl⟩
      rw [hTT] at S_0 HT
      have HTT := Lib.hid hTT
      clear hTT hz hT
      have HL0 := Lib.hid hl0
      have HL1 := Lib.hid hl1
      have HL2 := Lib.hid hl2
      have HL3 := Lib.hid hl3
      have HL4 := Lib.hid hl4
      have HL5 := Lib.hid hl5
      have HPl := Lib.hid hPl
      have HQl := Lib.hid hQl
      have HRl := Lib.hid hRl
      clear hl0 hl1 hl2 hl3 hl4 hl5 hPl hQl hRl
      have hj0 : (0 : Int) ≤ (j : Int) := by omega
      have hj1 : (j : Int) < (n : Int) := by omega
      have c0 : wr.cell? ⟨b, j * 11, none⟩ = some (.int .i64 ZA) := S_0.out.cellL HT.out 0 rfl
      have c1 : wr.cell? ⟨b, j * 11 + 1, none⟩ = some (.int .i64 ZB) := S_0.out.cellL HT.out 1 rfl
      have c2 : wr.cell? ⟨b, j * 11 + 2, none⟩ = some (.bool ZP.s) := S_0.out.cellL HT.out 2 rfl
      have c3 : wr.cell? ⟨b, j * 11 + 3, none⟩ = some ((.slice a0 n0 d0)) := S_0.out.cellL HT.out 3 rfl
      have f0 : wr.frozen? ⟨b, j * 11, none⟩ = false := S_0.out.frozL HT.out 0 rfl
      have f1 : wr.frozen? ⟨b, j * 11 + 1, none⟩ = false := S_0.out.frozL HT.out 1 rfl
      have f2 : wr.frozen? ⟨b, j * 11 + 2, none⟩ = false := S_0.out.frozL HT.out 2 rfl
      go_wp2_with fail
      clear c0 c1 c2 c3 f0 f1 f2
      have S_1 := Lib.hid (show St w0 (wr.setCell ⟨b, j * 11, none⟩ (.int .i64 (q : Int))) ((b, cellsL (T.set j (⟨(q : Int), ZB, ZP, ZQ, ZR, .slice a0 n0 d0, .slice a1 n1 d1, .slice a2 n2 d2, .slice a3 n3 d3, .slice a4 n4 d4, .slice a5 n5 d5⟩ : Lr))) :: bs) (rowsL (T.set j (⟨(q : Int), ZB, ZP, ZQ, ZR, .slice a0 n0 d0, .slice a1 n1 d1, .slice a2 n2 d2, .slice a3 n3 d3, .slice a4 n4 d4, .slice a5 n5 d5⟩ : Lr)) :: cs) from by have h := S_0.out.setL HT.out 0 (.int .i64 (q : Int)) (⟨(q : Int), ZB, ZP, ZQ, ZR, .slice a0 n0 d0, .slice a1 n1 d1, .slice a2 n2 d2, .slice a3 n3 d3, .slice a4 n4 d4, .slice a5 n5 d5⟩ : Lr) rfl rfl (by decide); first | exact h | (rw [List.set_set] at h; exact h))
      have HT_1 := Lib.hid (show (T.set j (⟨(q : Int), ZB, ZP, ZQ, ZR, .slice a0 n0 d0, .slice a1 n1 d1, .slice a2 n2 d2, .slice a3 n3 d3, .slice a4 n4 d4, .slice a5 n5 d5⟩ : Lr))[j]? = some (⟨(q : Int), ZB, ZP, ZQ, ZR, .slice a0 n0 d0, .slice a1 n1 d1, .slice a2 n2 d2, .slice a3 n3 d3, .slice a4 n4 d4, .slice a5 n5 d5⟩ : Lr) from set_self HT.out)
      clear S_0
      have S_2 := Lib.hid (show St w0 ((wr.setCell ⟨b, j * 11, none⟩ (.int .i64 (q : Int))).setCell ⟨b, j * 11 + 1, none⟩ (.int .i64 ((q : Int) + 1))) ((b, cellsL (T.set j (⟨(q : Int), ((q : Int) + 1), ZP, ZQ, ZR, .slice a0 n0 d0, .slice a1 n1 d1, .slice a2 n2 d2, .slice a3 n3 d3, .slice a4 n4 d4, .slice a5 n5 d5⟩ : Lr))) :: bs) (rowsL (T.set j (⟨(q : Int), ((q : Int) + 1), ZP, ZQ, ZR, .slice a0 n0 d0, .slice a1 n1 d1, .slice a2 n2 d2, .slice a3 n3 d3, .slice a4 n4 d4, .slice a5 n5 d5⟩ : Lr)) :: cs) from by have h := S_1.out.setL HT_1.out 1 (.int .i64 ((q : Int) + 1)) (⟨(q : Int), ((q : Int) + 1), ZP, ZQ, ZR, .slice a0 n0 d0, .slice a1 n1 d1, .slice a2 n2 d2, .slice a3 n3 d3, .slice a4 n4 d4, .slice a5 n5 d5⟩ : Lr) rfl rfl (by decide); first | exact h | (rw [List.set_set] at h; exact h))
      have HT_2 := Lib.hid (show (T.set j (⟨(q : Int), ((q : Int) + 1), ZP, ZQ, ZR, .slice a0 n0 d0, .slice a1 n1 d1, .slice a2 n2 d2, .slice a3 n3 d3, .slice a4 n4 d4, .slice a5 n5 d5⟩ : Lr))[j]? = some (⟨(q : Int), ((q : Int) + 1), ZP, ZQ, ZR, .slice a0 n0 d0, .slice a1 n1 d1, .slice a2 n2 d2, .slice a3 n3 d3, .slice a4 n4 d4, .slice a5 n5 d5⟩ : Lr) from set_self HT.out)
      clear S_1
      have S_3 := Lib.hid (show St w0 (((wr.setCell ⟨b, j * 11, none⟩ (.int .i64 (q : Int))).setCell ⟨b, j * 11 + 1, none⟩ (.int .i64 ((q : Int) + 1))).setCell ⟨b, j * 11 + 2, none⟩ (.bool (((q : Int) + 1 + 1) % 3 == 0))) ((b, cellsL (T.set j (⟨(q : Int), ((q : Int) + 1), ⟨(((q : Int) + 1 + 1) % 3 == 0), ZP.xs, ZP.ys⟩, ZQ, ZR, .slice a0 n0 d0, .slice a1 n1 d1, .slice a2 n2 d2, .slice a3 n3 d3, .slice a4 n4 d4, .slice a5 n5 d5⟩ : Lr))) :: bs) (rowsL (T.set j (⟨(q : Int), ((q : Int) + 1), ⟨(((q : Int) + 1 + 1) % 3 == 0), ZP.xs, ZP.ys⟩, ZQ, ZR, .slice a0 n0 d0, .slice a1 n1 d1, .slice a2 n2 d2, .slice a3 n3 d3, .slice a4 n4 d4, .slice a5 n5 d5⟩ : Lr)) :: cs) from by have h := S_2.out.setL HT_2.out 2 (.bool (((q : Int) + 1 + 1) % 3 == 0)) (⟨(q : Int), ((q : Int) + 1), ⟨(((q : Int) + 1 + 1) % 3 == 0), ZP.xs, ZP.ys⟩, ZQ, ZR, .slice a0 n0 d0, .slice a1 n1 d1, .slice a2 n2 d2, .slice a3 n3 d3, .slice a4 n4 d4, .slice a5 n5 d5⟩ : Lr) rfl rfl (by decide); first | exact h | (rw [List.set_set] at h; exact h))
      have HT_3 := Lib.hid (show (T.set j (⟨(q : Int), ((q : Int) + 1), ⟨(((q : Int) + 1 + 1) % 3 == 0), ZP.xs, ZP.ys⟩, ZQ, ZR, .slice a0 n0 d0, .slice a1 n1 d1, .slice a2 n2 d2, .slice a3 n3 d3, .slice a4 n4 d4, .slice a5 n5 d5⟩ : Lr))[j]? = some (⟨(q : Int), ((q : Int) + 1), ⟨(((q : Int) + 1 + 1) % 3 == 0), ZP.xs, ZP.ys⟩, ZQ, ZR, .slice a0 n0 d0, .slice a1 n1 d1, .slice a2 n2 d2, .slice a3 n3 d3, .slice a4 n4 d4, .slice a5 n5 d5⟩ : Lr) from set_self HT.out)
      clear S_2
      refine (markIntS_at a0 n0 d0 (q + 3) w0.heap.size _ (by first | rfl | omega | (push_cast; omega)) _ _ ((S_3.out.own 0 rfl).at_ (j * 6 + 0) (rowsL_at HT_3.out 0 rfl)) (by omega)).mono ?_
      rintro e w1 ⟨rfl, ho, hg⟩
      rw [← ints_marksZ] at ho
      have S_4 := Lib.hid (show St w0 w1 ((b, cellsL (T.set j (⟨(q : Int), ((q : Int) + 1), ⟨(((q : Int) + 1 + 1) % 3 == 0), marksZ (q + 3) n0, ZP.ys⟩, ZQ, ZR, .slice a0 n0 d0, .slice a1 n1 d1, .slice a2 n2 d2, .slice a3 n3 d3, .slice a4 n4 d4, .slice a5 n5 d5⟩ : Lr))) :: bs) (rowsL (T.set j (⟨(q : Int), ((q : Int) + 1), ⟨(((q : Int) + 1 + 1) % 3 == 0), marksZ (q + 3) n0, ZP.ys⟩, ZQ, ZR, .slice a0 n0 d0, .slice a1 n1 d1, .slice a2 n2 d2, .slice a3 n3 d3, .slice a4 n4 d4, .slice a5 n5 d5⟩ : Lr)) :: cs) from by have h := S_3.out.markR HT_3.out 0 _ (⟨(q : Int), ((q : Int) + 1), ⟨(((q : Int) + 1 + 1) % 3 == 0), marksZ (q + 3) n0, ZP.ys⟩, ZQ, ZR, .slice a0 n0 d0, .slice a1 n1 d1, .slice a2 n2 d2, .slice a3 n3 d3, .slice a4 n4 d4, .slice a5 n5 d5⟩ : Lr) rfl rfl rfl (by decide) ho hg; rw [List.set_set] at h; exact h)
      have HT_4 := Lib.hid (show (T.set j (⟨(q : Int), ((q : Int) + 1), ⟨(((q : Int) + 1 + 1) % 3 == 0), marksZ (q + 3) n0, ZP.ys⟩, ZQ, ZR, .slice a0 n0 d0, .slice a1 n1 d1, .slice a2 n2 d2, .slice a3 n3 d3, .slice a4 n4 d4, .slice a5 n5 d5⟩ : Lr))[j]? = some (⟨(q : Int), ((q : Int) + 1), ⟨(((q : Int) + 1 + 1) % 3 == 0), marksZ (q + 3) n0, ZP.ys⟩, ZQ, ZR, .slice a0 n0 d0, .slice a1 n1 d1, .slice a2 n2 d2, .slice a3 n3 d3, .slice a4 n4 d4, .slice a5 n5 d5⟩ : Lr) from set_self HT.out)
      clear ho hg S_3
      obtain ⟨q1, hq1⟩ : ∃ m : Nat, q + 3 + n0 = m := ⟨_, rfl⟩
      rw [hq1]
      have c4 : w1.cell? ⟨b, j * 11 + 4, none⟩ = some ((.slice a1 n1 d1)) := S_4.out.cellL HT_4.out 4 rfl
      go_wp2_with fail
      refine (markIntS_at a1 n1 d1 (q1) w0.heap.size _ (by first | rfl | omega | (push_cast; omega)) _ _ ((S_4.out.own 0 rfl).at_ (j * 6 + 1) (rowsL_at HT_4.out 1 rfl)) (by omega)).mono ?_
      rintro e w2 ⟨rfl, ho, hg⟩
      rw [← ints_marksZ] at ho
      have S_5 := Lib.hid (show St w0 w2 ((b, cellsL (T.set j (⟨(q : Int), ((q : Int) + 1), ⟨(((q : Int) + 1 + 1) % 3 == 0), marksZ (q + 3) n0, marksZ (q1) n1⟩, ZQ, ZR, .slice a0 n0 d0, .slice a1 n1 d1, .slice a2 n2 d2, .slice a3 n3 d3, .slice a4 n4 d4, .slice a5 n5 d5⟩ : Lr))) :: bs) (rowsL (T.set j (⟨(q : Int), ((q : Int) + 1), ⟨(((q : Int) + 1 + 1) % 3 == 0), marksZ (q + 3) n0, marksZ (q1) n1⟩, ZQ, ZR, .slice a0 n0 d0, .slice a1 n1 d1, .slice a2 n2 d2, .slice a3 n3 d3, .slice a4 n4 d4, .slice a5 n5 d5⟩ : Lr)) :: cs) from by have h := S_4.out.markR HT_4.out 1 _ (⟨(q : Int), ((q : Int) + 1), ⟨(((q : Int) + 1 + 1) % 3 == 0), marksZ (q + 3) n0, marksZ (q1) n1⟩, ZQ, ZR, .slice a0 n0 d0, .slice a1 n1 d1, .slice a2 n2 d2, .slice a3 n3 d3, .slice a4 n4 d4, .slice a5 n5 d5⟩ : Lr) rfl rfl rfl (by decide) ho hg; rw [List.set_set] at h; exact h)
      have HT_5 := Lib.hid (show (T.set j (⟨(q : Int), ((q : Int) + 1), ⟨(((q : Int) + 1 + 1) % 3 == 0), marksZ (q + 3) n0, marksZ (q1) n1⟩, ZQ, ZR, .slice a0 n0 d0, .slice a1 n1 d1, .slice a2 n2 d2, .slice a3 n3 d3, .slice a4 n4 d4, .slice a5 n5 d5⟩ : Lr))[j]? = some (⟨(q : Int), ((q : Int) + 1), ⟨(((q : Int) + 1 + 1) % 3 == 0), marksZ (q + 3) n0, marksZ (q1) n1⟩, ZQ, ZR, .slice a0 n0 d0, .slice a1 n1 d1, .slice a2 n2 d2, .slice a3 n3 d3, .slice a4 n4 d4, .slice a5 n5 d5⟩ : Lr) from set_self HT.out)
      clear ho hg S_4 c4
      obtain ⟨q2, hq2⟩ : ∃ m : Nat, q1 + n1 = m := ⟨_, rfl⟩
      rw [hq2]
      have c5 : w2.cell? ⟨b, j * 11 + 5, none⟩ = some (.bool ZQ.s) := S_5.out.cellL HT_5.out 5 rfl
      have c6 : w2.cell? ⟨b, j * 11 + 6, none⟩ = some ((.slice a2 n2 d2)) := S_5.out.cellL HT_5.out 6 rfl
      have f5 : w2.frozen? ⟨b, j * 11 + 5, none⟩ = false := S_5.out.frozL HT_5.out 5 rfl
      go_wp2_with fail
      clear c5 c6 f5
      have S_6 := Lib.hid (show St w0 (w2.setCell ⟨b, j * 11 + 5, none⟩ (.bool ((q2 : Int) % 3 == 0))) ((b, cellsL (T.set j (⟨(q : Int), ((q : Int) + 1), ⟨(((q : Int) + 1 + 1) % 3 == 0), marksZ (q + 3) n0, marksZ (q1) n1⟩, ⟨((q2 : Int) % 3 == 0), ZQ.xs, ZQ.ys⟩, ZR, .slice a0 n0 d0, .slice a1 n1 d1, .slice a2 n2 d2, .slice a3 n3 d3, .slice a4 n4 d4, .slice a5 n5 d5⟩ : Lr))) :: bs) (rowsL (T.set j (⟨(q : Int), ((q : Int) + 1), ⟨(((q : Int) + 1 + 1) % 3 == 0), marksZ (q + 3) n0, marksZ (q1) n1⟩, ⟨((q2 : Int) % 3 == 0), ZQ.xs, ZQ.ys⟩, ZR, .slice a0 n0 d0, .slice a1 n1 d1, .slice a2 n2 d2, .slice a3 n3 d3, .slice a4 n4 d4, .slice a5 n5 d5⟩ : Lr)) :: cs) from by have h := S_5.out.setL HT_5.out 5 (.bool ((q2 : Int) % 3 == 0)) (⟨(q : Int), ((q : Int) + 1), ⟨(((q : Int) + 1 + 1) % 3 == 0), marksZ (q + 3) n0, marksZ (q1) n1⟩, ⟨((q2 : Int) % 3 == 0), ZQ.xs, ZQ.ys⟩, ZR, .slice a0 n0 d0, .slice a1 n1 d1, .slice a2 n2 d2, .slice a3 n3 d3, .slice a4 n4 d4, .slice a5 n5 d5⟩ : Lr) rfl rfl (by decide); first | exact h | (rw [List.set_set] at h; exact h))
      have HT_6 := Lib.hid (show (T.set j (⟨(q : Int), ((q : Int) + 1), ⟨(((q : Int) + 1 + 1) % 3 == 0), marksZ (q + 3) n0, marksZ (q1) n1⟩, ⟨((q2 : Int) % 3 == 0), ZQ.xs, ZQ.ys⟩, ZR, .slice a0 n0 d0, .slice a1 n1 d1, .slice a2 n2 d2, .slice a3 n3 d3, .slice a4 n4 d4, .slice a5 n5 d5⟩ : Lr))[j]? = some (⟨(q : Int), ((q : Int) + 1), ⟨(((q : Int) + 1 + 1) % 3 == 0), marksZ (q + 3) n0, marksZ (q1) n1⟩, ⟨((q2 : Int) % 3 == 0), ZQ.xs, ZQ.ys⟩, ZR, .slice a0 n0 d0, .slice a1 n1 d1, .slice a2 n2 d2, .slice a3 n3 d3, .slice a4 n4 d4, .slice a5 n5 d5⟩ : Lr) from set_self HT.out)
      clear S_5
      refine (markIntS_at a2 n2 d2 (q2 + 1) w0.heap.size _ (by first | rfl | omega | (push_cast; omega)) _ _ ((S_6.out.own 0 rfl).at_ (j * 6 + 2) (rowsL_at HT_6.out 2 rfl)) (by omega)).mono ?_
      rintro e w3 ⟨rfl, ho, hg⟩
      rw [← ints_marksZ] at ho
      have S_7 := Lib.hid (show St w0 w3 ((b, cellsL (T.set j (⟨(q : Int), ((q : Int) + 1), ⟨(((q : Int) + 1 + 1) % 3 == 0), marksZ (q + 3) n0, marksZ (q1) n1⟩, ⟨((q2 : Int) % 3 == 0), marksZ (q2 + 1) n2, ZQ.ys⟩, ZR, .slice a0 n0 d0, .slice a1 n1 d1, .slice a2 n2 d2, .slice a3 n3 d3, .slice a4 n4 d4, .slice a5 n5 d5⟩ : Lr))) :: bs) (rowsL (T.set j (⟨(q : Int), ((q : Int) + 1), ⟨(((q : Int) + 1 + 1) % 3 == 0), marksZ (q + 3) n0, marksZ (q1) n1⟩, ⟨((q2 : Int) % 3 == 0), marksZ (q2 + 1) n2, ZQ.ys⟩, ZR, .slice a0 n0 d0, .slice a1 n1 d1, .slice a2 n2 d2, .slice a3 n3 d3, .slice a4 n4 d4, .slice a5 n5 d5⟩ : Lr)) :: cs) from by have h := S_6.out.markR HT_6.out 2 _ (⟨(q : Int), ((q : Int) + 1), ⟨(((q : Int) + 1 + 1) % 3 == 0), marksZ (q + 3) n0, marksZ (q1) n1⟩, ⟨((q2 : Int) % 3 == 0), marksZ (q2 + 1) n2, ZQ.ys⟩, ZR, .slice a0 n0 d0, .slice a1 n1 d1, .slice a2 n2 d2, .slice a3 n3 d3, .slice a4 n4 d4, .slice a5 n5 d5⟩ : Lr) rfl rfl rfl (by decide) ho hg; rw [List.set_set] at h; exact h)
      have HT_7 := Lib.hid (show (T.set j (⟨(q : Int), ((q : Int) + 1), ⟨(((q : Int) + 1 + 1) % 3 == 0), marksZ (q + 3) n0, marksZ (q1) n1⟩, ⟨((q2 : Int) % 3 == 0), marksZ (q2 + 1) n2, ZQ.ys⟩, ZR, .slice a0 n0 d0, .slice a1 n1 d1, .slice a2 n2 d2, .slice a3 n3 d3, .slice a4 n4 d4, .slice a5 n5 d5⟩ : Lr))[j]? = some (⟨(q : Int), ((q : Int) + 1), ⟨(((q : Int) + 1 + 1) % 3 == 0), marksZ (q + 3) n0, marksZ (q1) n1⟩, ⟨((q2 : Int) % 3 == 0), marksZ (q2 + 1) n2, ZQ.ys⟩, ZR, .slice a0 n0 d0, .slice a1 n1 d1, .slice a2 n2 d2, .slice a3 n3 d3, .slice a4 n4 d4, .slice a5 n5 d5⟩ : Lr) from set_self HT.out)
      clear ho hg S_6
      obtain ⟨q3, hq3⟩ : ∃ m : Nat, q2 + 1 + n2 = m := ⟨_, rfl⟩
      rw [hq3]
      have c7 : w3.cell? ⟨b, j * 11 + 7, none⟩ = some ((.slice a3 n3 d3)) := S_7.out.cellL HT_7.out 7 rfl
      go_wp2_with fail
      refine (markIntS_at a3 n3 d3 (q3) w0.heap.size _ (by first | rfl | omega | (push_cast; omega)) _ _ ((S_7.out.own 0 rfl).at_ (j * 6 + 3) (rowsL_at HT_7.out 3 rfl)) (by omega)).mono ?_
      rintro e w4 ⟨rfl, ho, hg⟩
      rw [← ints_marksZ] at ho
      have S_8 := Lib.hid (show St w0 w4 ((b, cellsL (T.set j (⟨(q : Int), ((q : Int) + 1), ⟨(((q : Int) + 1 + 1) % 3 == 0), marksZ (q + 3) n0, marksZ (q1) n1⟩, ⟨((q2 : Int) % 3 == 0), marksZ (q2 + 1) n2, marksZ (q3) n3⟩, ZR, .slice a0 n0 d0, .slice a1 n1 d1, .slice a2 n2 d2, .slice a3 n3 d3, .slice a4 n4 d4, .slice a5 n5 d5⟩ : Lr))) :: bs) (rowsL (T.set j (⟨(q : Int), ((q : Int) + 1), ⟨(((q : Int) + 1 + 1) % 3 == 0), marksZ (q + 3) n0, marksZ (q1) n1⟩, ⟨((q2 : Int) % 3 == 0), marksZ (q2 + 1) n2, marksZ (q3) n3⟩, ZR, .slice a0 n0 d0, .slice a1 n1 d1, .slice a2 n2 d2, .slice a3 n3 d3, .slice a4 n4 d4, .slice a5 n5 d5⟩ : Lr)) :: cs) from by have h := S_7.out.markR HT_7.out 3 _ (⟨(q : Int), ((q : Int) + 1), ⟨(((q : Int) + 1 + 1) % 3 == 0), marksZ (q + 3) n0, marksZ (q1) n1⟩, ⟨((q2 : Int) % 3 == 0), marksZ (q2 + 1) n2, marksZ (q3) n3⟩, ZR, .slice a0 n0 d0, .slice a1 n1 d1, .slice a2 n2 d2, .slice a3 n3 d3, .slice a4 n4 d4, .slice a5 n5 d5⟩ : Lr) rfl rfl rfl (by decide) ho hg; rw [List.set_set] at h; exact h)
      have HT_8 := Lib.hid (show (T.set j (⟨(q : Int), ((q : Int) + 1), ⟨(((q : Int) + 1 + 1) % 3 == 0), marksZ (q + 3) n0, marksZ (q1) n1⟩, ⟨((q2 : Int) % 3 == 0), marksZ (q2 + 1) n2, marksZ (q3) n3⟩, ZR, .slice a0 n0 d0, .slice a1 n1 d1, .slice a2 n2 d2, .slice a3 n3 d3, .slice a4 n4 d4, .slice a5 n5 d5⟩ : Lr))[j]? = some (⟨(q : Int), ((q : Int) + 1), ⟨(((q : Int) + 1 + 1) % 3 == 0), marksZ (q + 3) n0, marksZ (q1) n1⟩, ⟨((q2 : Int) % 3 == 0), marksZ (q2 + 1) n2, marksZ (q3) n3⟩, ZR, .slice a0 n0 d0, .slice a1 n1 d1, .slice a2 n2 d2, .slice a3 n3 d3, .slice a4 n4 d4, .slice a5 n5 d5⟩ : Lr) from set_self HT.out)
      clear ho hg S_7 c7
      obtain ⟨q4, hq4⟩ : ∃ m : Nat, q3 + n3 = m := ⟨_, rfl⟩
      rw [hq4]
      have c8 : w4.cell? ⟨b, j * 11 + 8, none⟩ = some (.bool ZR.s) := S_8.out.cellL HT_8.out 8 rfl
      have c9 : w4.cell? ⟨b, j * 11 + 9, none⟩ = some ((.slice a4 n4 d4)) := S_8.out.cellL HT_8.out 9 rfl
      have f8 : w4.frozen? ⟨b, j * 11 + 8, none⟩ = false := S_8.out.frozL HT_8.out 8 rfl
      go_wp2_with fail
      clear c8 c9 f8
      have S_9 := Lib.hid (show St w0 (w4.setCell ⟨b, j * 11 + 8, none⟩ (.bool ((q4 : Int) % 3 == 0))) ((b, cellsL (T.set j (⟨(q : Int), ((q : Int) + 1), ⟨(((q : Int) + 1 + 1) % 3 == 0), marksZ (q + 3) n0, marksZ (q1) n1⟩, ⟨((q2 : Int) % 3 == 0), marksZ (q2 + 1) n2, marksZ (q3) n3⟩, ⟨((q4 : Int) % 3 == 0), ZR.xs, ZR.ys⟩, .slice a0 n0 d0, .slice a1 n1 d1, .slice a2 n2 d2, .slice a3 n3 d3, .slice a4 n4 d4, .slice a5 n5 d5⟩ : Lr))) :: bs) (rowsL (T.set j (⟨(q : Int), ((q : Int) + 1), ⟨(((q : Int) + 1 + 1) % 3 == 0), marksZ (q + 3) n0, marksZ (q1) n1⟩, ⟨((q2 : Int) % 3 == 0), marksZ (q2 + 1) n2, marksZ (q3) n3⟩, ⟨((q4 : Int) % 3 == 0), ZR.xs, ZR.ys⟩, .slice a0 n0 d0, .slice a1 n1 d1, .slice a2 n2 d2, .slice a3 n3 d3, .slice a4 n4 d4, .slice a5 n5 d5⟩ : Lr)) :: cs) from by have h := S_8.out.setL HT_8.out 8 (.bool ((q4 : Int) % 3 == 0)) (⟨(q : Int), ((q : Int) + 1), ⟨(((q : Int) + 1 + 1) % 3 == 0), marksZ (q + 3) n0, marksZ (q1) n1⟩, ⟨((q2 : Int) % 3 == 0), marksZ (q2 + 1) n2, marksZ (q3) n3⟩, ⟨((q4 : Int) % 3 == 0), ZR.xs, ZR.ys⟩, .slice a0 n0 d0, .slice a1 n1 d1, .slice a2 n2 d2, .slice a3 n3 d3, .slice a4 n4 d4, .slice a5 n5 d5⟩ : Lr) rfl rfl (by decide); first | exact h | (rw [List.set_set] at h; exact h))
      have HT_9 := Lib.hid (show (T.set j (⟨(q : Int), ((q : Int) + 1), ⟨(((q : Int) + 1 + 1) % 3 == 0), marksZ (q + 3) n0, marksZ (q1) n1⟩, ⟨((q2 : Int) % 3 == 0), marksZ (q2 + 1) n2, marksZ (q3) n3⟩, ⟨((q4 : Int) % 3 == 0), ZR.xs, ZR.ys⟩, .slice a0 n0 d0, .slice a1 n1 d1, .slice a2 n2 d2, .slice a3 n3 d3, .slice a4 n4 d4, .slice a5 n5 d5⟩ : Lr))[j]? = some (⟨(q : Int), ((q : Int) + 1), ⟨(((q : Int) + 1 + 1) % 3 == 0), marksZ (q + 3) n0, marksZ (q1) n1⟩, ⟨((q2 : Int) % 3 == 0), marksZ (q2 + 1) n2, marksZ (q3) n3⟩, ⟨((q4 : Int) % 3 == 0), ZR.xs, ZR.ys⟩, .slice a0 n0 d0, .slice a1 n1 d1, .slice a2 n2 d2, .slice a3 n3 d3, .slice a4 n4 d4, .slice a5 n5 d5⟩ : Lr) from set_self HT.out)
      clear S_8
      refine (markIntS_at a4 n4 d4 (q4 + 1) w0.heap.size _ (by first | rfl | omega | (push_cast; omega)) _ _ ((S_9.out.own 0 rfl).at_ (j * 6 + 4) (rowsL_at HT_9.out 4 rfl)) (by omega)).mono ?_
      rintro e w5 ⟨rfl, ho, hg⟩
      rw [← ints_marksZ] at ho
      have S_10 := Lib.hid (show St w0 w5 ((b, cellsL (T.set j (⟨(q : Int), ((q : Int) + 1), ⟨(((q : Int) + 1 + 1) % 3 == 0), marksZ (q + 3) n0, marksZ (q1) n1⟩, ⟨((q2 : Int) % 3 == 0), marksZ (q2 + 1) n2, marksZ (q3) n3⟩, ⟨((q4 : Int) % 3 == 0), marksZ (q4 + 1) n4, ZR.ys⟩, .slice a0 n0 d0, .slice a1 n1 d1, .slice a2 n2 d2, .slice a3 n3 d3, .slice a4 n4 d4, .slice a5 n5 d5⟩ : Lr))) :: bs) (rowsL (T.set j (⟨(q : Int), ((q : Int) + 1), ⟨(((q : Int) + 1 + 1) % 3 == 0), marksZ (q + 3) n0, marksZ (q1) n1⟩, ⟨((q2 : Int) % 3 == 0), marksZ (q2 + 1) n2, marksZ (q3) n3⟩, ⟨((q4 : Int) % 3 == 0), marksZ (q4 + 1) n4, ZR.ys⟩, .slice a0 n0 d0, .slice a1 n1 d1, .slice a2 n2 d2, .slice a3 n3 d3, .slice a4 n4 d4, .slice a5 n5 d5⟩ : Lr)) :: cs) from by have h := S_9.out.markR HT_9.out 4 _ (⟨(q : Int), ((q : Int) + 1), ⟨(((q : Int) + 1 + 1) % 3 == 0), marksZ (q + 3) n0, marksZ (q1) n1⟩, ⟨((q2 : Int) % 3 == 0), marksZ (q2 + 1) n2, marksZ (q3) n3⟩, ⟨((q4 : Int) % 3 == 0), marksZ (q4 + 1) n4, ZR.ys⟩, .slice a0 n0 d0, .slice a1 n1 d1, .slice a2 n2 d2, .slice a3 n3 d3, .slice a4 n4 d4, .slice a5 n5 d5⟩ : Lr) rfl rfl rfl (by decide) ho hg; rw [List.set_set] at h; exact h)
      have HT_10 := Lib.hid (show (T.set j (⟨(q : Int), ((q : Int) + 1), ⟨(((q : Int) + 1 + 1) % 3 == 0), marksZ (q + 3) n0, marksZ (q1) n1⟩, ⟨((q2 : Int) % 3 == 0), marksZ (q2 + 1) n2, marksZ (q3) n3⟩, ⟨((q4 : Int) % 3 == 0), marksZ (q4 + 1) n4, ZR.ys⟩, .slice a0 n0 d0, .slice a1 n1 d1, .slice a2 n2 d2, .slice a3 n3 d3, .slice a4 n4 d4, .slice a5 n5 d5⟩ : Lr))[j]? = some (⟨(q : Int), ((q : Int) + 1), ⟨(((q : Int) + 1 + 1) % 3 == 0), marksZ (q + 3) n0, marksZ (q1) n1⟩, ⟨((q2 : Int) % 3 == 0), marksZ (q2 + 1) n2, marksZ (q3) n3⟩, ⟨((q4 : Int) % 3 == 0), marksZ (q4 + 1) n4, ZR.ys⟩, .slice a0 n0 d0, .slice a1 n1 d1, .slice a2 n2 d2, .slice a3 n3 d3, .slice a4 n4 d4, .slice a5 n5 d5⟩ : Lr) from set_self HT.out)
      clear ho hg S_9
      obtain ⟨q5, hq5⟩ : ∃ m : Nat, q4 + 1 + n4 = m := ⟨_, rfl⟩
      rw [hq5]
      have c10 : w5.cell? ⟨b, j * 11 + 10, none⟩ = some ((.slice a5 n5 d5)) := S_10.out.cellL HT_10.out 10 rfl
      go_wp2_with fail
      refine (markIntS_at a5 n5 d5 (q5) w0.heap.size _ (by first | rfl | omega | (push_cast; omega)) _ _ ((S_10.out.own 0 rfl).at_ (j * 6 + 5) (rowsL_at HT_10.out 5 rfl)) (by omega)).mono ?_
      rintro e w6 ⟨rfl, ho, hg⟩
      rw [← ints_marksZ] at ho
      have S_11 := Lib.hid (show St w0 w6 ((b, cellsL (T.set j (⟨(q : Int), ((q : Int) + 1), ⟨(((q : Int) + 1 + 1) % 3 == 0), marksZ (q + 3) n0, marksZ (q1) n1⟩, ⟨((q2 : Int) % 3 == 0), marksZ (q2 + 1) n2, marksZ (q3) n3⟩, ⟨((q4 : Int) % 3 == 0), marksZ (q4 + 1) n4, marksZ (q5) n5⟩, .slice a0 n0 d0, .slice a1 n1 d1, .slice a2 n2 d2, .slice a3 n3 d3, .slice a4 n4 d4, .slice a5 n5 d5⟩ : Lr))) :: bs) (rowsL (T.set j (⟨(q : Int), ((q : Int) + 1), ⟨(((q : Int) + 1 + 1) % 3 == 0), marksZ (q + 3) n0, marksZ (q1) n1⟩, ⟨((q2 : Int) % 3 == 0), marksZ (q2 + 1) n2, marksZ (q3) n3⟩, ⟨((q4 : Int) % 3 == 0), marksZ (q4 + 1) n4, marksZ (q5) n5⟩, .slice a0 n0 d0, .slice a1 n1 d1, .slice a2 n2 d2, .slice a3 n3 d3, .slice a4 n4 d4, .slice a5 n5 d5⟩ : Lr)) :: cs) from by have h := S_10.out.markR HT_10.out 5 _ (⟨(q : Int), ((q : Int) + 1), ⟨(((q : Int) + 1 + 1) % 3 == 0), marksZ (q + 3) n0, marksZ (q1) n1⟩, ⟨((q2 : Int) % 3 == 0), marksZ (q2 + 1) n2, marksZ (q3) n3⟩, ⟨((q4 : Int) % 3 == 0), marksZ (q4 + 1) n4, marksZ (q5) n5⟩, .slice a0 n0 d0, .slice a1 n1 d1, .slice a2 n2 d2, .slice a3 n3 d3, .slice a4 n4 d4, .slice a5 n5 d5⟩ : Lr) rfl rfl rfl (by decide) ho hg; rw [List.set_set] at h; exact h)
      have HT_11 := Lib.hid (show (T.set j (⟨(q : Int), ((q : Int) + 1), ⟨(((q : Int) + 1 + 1) % 3 == 0), marksZ (q + 3) n0, marksZ (q1) n1⟩, ⟨((q2 : Int) % 3 == 0), marksZ (q2 + 1) n2, marksZ (q3) n3⟩, ⟨((q4 : Int) % 3 == 0), marksZ (q4 + 1) n4, marksZ (q5) n5⟩, .slice a0 n0 d0, .slice a1 n1 d1, .slice a2 n2 d2, .slice a3 n3 d3, .slice a4 n4 d4, .slice a5 n5 d5⟩ : Lr))[j]? = some (⟨(q : Int), ((q : Int) + 1), ⟨(((q : Int) + 1 + 1) % 3 == 0), marksZ (q + 3) n0, marksZ (q1) n1⟩, ⟨((q2 : Int) % 3 == 0), marksZ (q2 + 1) n2, marksZ (q3) n3⟩, ⟨((q4 : Int) % 3 == 0), marksZ (q4 + 1) n4, marksZ (q5) n5⟩, .slice a0 n0 d0, .slice a1 n1 d1, .slice a2 n2 d2, .slice a3 n3 d3, .slice a4 n4 d4, .slice a5 n5 d5⟩ : Lr) from set_self HT.out)
      clear ho hg S_10 c10
      obtain ⟨q6, hq6⟩ : ∃ m : Nat, q5 + n5 = m := ⟨_, rfl⟩
      rw [hq6]
      have HZE := Lib.hid (show (⟨(q : Int), ((q : Int) + 1), ⟨(((q : Int) + 1 + 1) % 3 == 0), marksZ (q + 3) n0, marksZ (q1) n1⟩, ⟨((q2 : Int) % 3 == 0), marksZ (q2 + 1) n2, marksZ (q3) n3⟩, ⟨((q4 : Int) % 3 == 0), marksZ (q4 + 1) n4, marksZ (q5) n5⟩, .slice a0 n0 d0, .slice a1 n1 d1, .slice a2 n2 d2, .slice a3 n3 d3, .slice a4 n4 d4, .slice a5 n5 d5⟩ : Lr) = markLr q (⟨ZA, ZB, ZP, ZQ, ZR, .slice a0 n0 d0, .slice a1 n1 d1, .slice a2 n2 d2, .slice a3 n3 d3, .slice a4 n4 d4, .slice a5 n5 d5⟩ : Lr) from by
        have e0 := HL0.out
        have e1 := HL1.out
        have e2 := HL2.out
        have e3 := HL3.out
        have e4 := HL4.out
        have e5 := HL5.out
        have eP := HPl.out
        have eQ := HQl.out
        simp only [markLr, markFr, eP, eQ, ← e0, ← e1, ← e2, ← e3, ← e4, ← e5]
        rw [mod3 (show (q : Int) + 1 + 1 = ((q + 2 : Nat) : Int) by omega), mod3 (rfl : (q2 : Int) = (q2 : Int)), mod3 (rfl : (q4 : Int) = (q4 : Int))]
        rw [show (q : Int) + 1 = ((q + 1 : Nat) : Int) by omega, show q + 2 + 1 = q + 3 by omega, show q + 3 + n0 = q1 by omega, show q + 3 + (n0 + n1) = q2 by omega, show q + 4 + (n0 + n1) + (n2 + n3) = q4 by omega, show q2 + 1 + n2 = q3 by omega, show q4 + 1 + n4 = q5 by omega])
      have HQ6 := Lib.hid (show q6 = markAt k zs (j + 1) by have h1 := HQ2.out; have h2 := HQ.out; have eP := HPl.out; have eQ := HQl.out; have eR := HRl.out; simp only [Lr.len, eP, eQ, eR] at h1; omega)
      have S_E := Lib.hid (show St w0 w6 ((b, cellsL (markTo k zs (j + 1))) :: bs) (rowsL (markTo k zs (j + 1)) :: cs) from by have h := S_11.out; rw [HZE.out, ← HTT.out] at h; rw [← markTo_succ HZ.out, ← HQ.out]; exact h)
      clear S_11
      have hq6b : q6 ≤ 1073741824 := by omega
      clear hq1 hq2 hq3 hq4 hq5 hq6
      go_wp2
      exact ⟨⟨j + 1, q6, by omega, by go_num, rfl, HQ6.out, S_E.out⟩, by simp [intOf]; omega⟩
    · obtain rfl : j = n := by omega
      have HE := Lib.hid (show ((q : Nat) : Int) = ((k + 5 * j + lensL zs : Nat) : Int) by rw [HQ.out, ← HL.out, markAt_all])
      go_wp2
      go_ret
      refine ⟨ret_int HE.out, ?_⟩
      have h := S_0.out
      rw [← HL.out, markTo_all] at h
      exact h
end Go.Proofs.YtaboodioabopnaaGreat
