/- Records: marks of Point. Conditions: none. -/
import Derived.Test.YtaboodioabopnaaGreatRMark
namespace Go.Proofs.YtaboodioabopnaaGreat
open Go.RowKit Nt Fr
set_option linter.unusedVariables false

set_option maxRecDepth 100000 in
set_option maxHeartbeats 4000000 in
theorem markPointS_f (b n c k : Nat) (K : Int) (hK : K = (k : Int)) (zs : List Rc) (w0 w : World) (bs : List (Nat × List Value)) (cs : List Chunk) (hl : zs.length = n) (hsh : ∀ z ∈ zs, z.sh 0 2) (hS : St w0 w ((b, cellsR zs) :: bs) (rowsR zs :: cs)) (hn : k + 2 * n + lensR zs ≤ 1073741824) :
    Calls Tryz.prog 20 #[.slice (some ⟨b, 0, none⟩) n c, .int .i64 K] w fun e w' => e = .returned (.int .i64 ((k + 2 * n + lensR zs : Nat) : Int)) ∧ St w0 w' ((b, cellsR (markRs 2 k zs)) :: bs) (rowsR (markRs 2 k zs) :: cs) := by
  subst hK
  have HL := Lib.hid hl
  have HS := Lib.hid hS
  have HN := Lib.hid hn
  have HSH0 := Lib.hid hsh
  have hn1 : n ≤ 1073741824 := by omega
  clear hl hS hn hsh
  go_enter Tryz.func20, Tryz.ntmps20
  go_wp2
  go_loopw [1, 5] (fun kk i wr => ∃ j q : Nat, j ≤ n ∧ i = .int .i64 j ∧ kk = .int .i64 (q : Int) ∧ q = markRAt 2 k zs j ∧ St w0 wr ((b, cellsR (markRTo 2 k zs j)) :: bs) (rowsR (markRTo 2 k zs j) :: cs)) (fun _ i _ => n - (intOf i).toNat)
  case atStart => exact ⟨0, k, Nat.zero_le _, rfl, rfl, by simp [markRAt, lensR], by rw [markRTo_zero]; exact HS.out⟩
  case round =>
    obtain ⟨j, q, hj, rfl, rfl, hq, hst⟩ := hrel
    have S_0 := Lib.hid hst
    have HQ := Lib.hid hq
    clear hst hq
    by_cases hlt : j < n
    · obtain ⟨z, hz⟩ : ∃ z, zs[j]? = some z := ⟨_, List.getElem?_eq_getElem (by have := HL.out; omega)⟩
      have hT := markRTo_at (c := 2) (k := k) hz
      have hTs := markRTo_sh (c := 2) (k := k) (j := j) HSH0.out
      have hzs := HSH0.out z (List.mem_of_getElem? hz)
      obtain ⟨ZP, p0, p1, ZQ, p2, p3, rfl⟩ := Rc.sh02 hzs
      have hO := S_0.out.own 0 rfl
      have hr0 := hO.at_ (j * 4 + 0) (rowsR_at (rowsR_lens hTs rfl) hT 0 rfl)
      have hr1 := hO.at_ (j * 4 + 1) (rowsR_at (rowsR_lens hTs rfl) hT 1 rfl)
      have hr2 := hO.at_ (j * 4 + 2) (rowsR_at (rowsR_lens hTs rfl) hT 2 rfl)
      have hr3 := hO.at_ (j * 4 + 3) (rowsR_at (rowsR_lens hTs rfl) hT 3 rfl)
      obtain ⟨a0, n0, d0, rfl⟩ := hr0.shape3
      obtain ⟨a1, n1, d1, rfl⟩ := hr1.shape3
      obtain ⟨a2, n2, d2, rfl⟩ := hr2.shape3
      obtain ⟨a3, n3, d3, rfl⟩ := hr3.shape3
      have hl0 : n0 = ZP.xs.length := by have h : (ints ZP.xs).length = n0 := hr0.len; rw [ints_len] at h; omega
      have hl1 : n1 = ZP.ys.length := by have h : (ints ZP.ys).length = n1 := hr1.len; rw [ints_len] at h; omega
      have hl2 : n2 = ZQ.xs.length := by have h : (ints ZQ.xs).length = n2 := hr2.len; rw [ints_len] at h; omega
      have hl3 : n3 = ZQ.ys.length := by have h : (ints ZQ.ys).length = n3 := hr3.len; rw [ints_len] at h; omega
      have hZPl : ZP.len = n0 + n1 := by simp only [Fr.len]; omega
      have hZQl : ZQ.len = n2 + n3 := by simp only [Fr.len]; omega
      have hzl : Rc.len (⟨[], [(ZP, .slice a0 n0 d0, .slice a1 n1 d1), (ZQ, .slice a2 n2 d2, .slice a3 n3 d3)]⟩ : Rc) = (n0 + n1) + (n2 + n3) := by simp only [Rc.len, Rc.lens]; omega
      have HQ2 := Lib.hid (markRAt_succ (c := 2) (k := k) hz)
      have hqb : q + 2 + ((n0 + n1) + (n2 + n3)) ≤ 1073741824 := by
        have h1 := markRAt_le 2 k zs (j + 1) (by have := HL.out; omega)
        have h2 := HQ2.out
        have h3 := HQ.out
        have h4 := HN.out
        have h5 := HL.out
        rw [hzl] at h2
        rw [h5] at h1
        omega
      obtain ⟨T, hTT⟩ : ∃ T, markRTo 2 k zs j = T := ⟨_, rfl⟩
      rw [hTT] at S_0 hT hTs
      have HTT := Lib.hid hTT
      have HZ := Lib.hid hz
      have HT := Lib.hid hT
      have HSH := Lib.hid hTs
      have HZLEN := Lib.hid hzl
      have HL0 := Lib.hid hl0
      have HL1 := Lib.hid hl1
      have HL2 := Lib.hid hl2
      have HL3 := Lib.hid hl3
      have HF0 := Lib.hid hZPl
      have HF1 := Lib.hid hZQl
      clear hTT hz hT hTs hzs hzl hO hr0 hr1 hr2 hr3 hl0 hl1 hl2 hl3 hZPl hZQl
      have hj0 : (0 : Int) ≤ (j : Int) := by omega
      have hj1 : (j : Int) < (n : Int) := by omega
      have c0 : wr.cell? ⟨b, j * 6, none⟩ = some (.bool ZP.s) := S_0.out.cellR (Sz.of HSH.out rfl) HT.out 0 rfl
      have c1 : wr.cell? ⟨b, j * 6 + 1, none⟩ = some (.slice a0 n0 d0) := S_0.out.cellR (Sz.of HSH.out rfl) HT.out 1 rfl
      have f0 : wr.frozen? ⟨b, j * 6, none⟩ = false := S_0.out.frozR (Sz.of HSH.out rfl) HT.out 0 rfl
      go_wp2_with fail
      clear c0 c1 f0
      have S_1 := Lib.hid (show St w0 (wr.setCell ⟨b, j * 6, none⟩ (.bool (((q : Int)) % 3 == 0))) ((b, cellsR (T.set j (⟨[], [(⟨(((q : Int)) % 3 == 0), ZP.xs, ZP.ys⟩, .slice a0 n0 d0, .slice a1 n1 d1), (ZQ, .slice a2 n2 d2, .slice a3 n3 d3)]⟩ : Rc))) :: bs) (rowsR (T.set j (⟨[], [(⟨(((q : Int)) % 3 == 0), ZP.xs, ZP.ys⟩, .slice a0 n0 d0, .slice a1 n1 d1), (ZQ, .slice a2 n2 d2, .slice a3 n3 d3)]⟩ : Rc)) :: cs) from by have h := S_0.out.setR (Sz.of HSH.out rfl) HT.out 0 (.bool (((q : Int)) % 3 == 0)) (⟨[], [(⟨(((q : Int)) % 3 == 0), ZP.xs, ZP.ys⟩, .slice a0 n0 d0, .slice a1 n1 d1), (ZQ, .slice a2 n2 d2, .slice a3 n3 d3)]⟩ : Rc) rfl rfl (by decide); first | exact h | (rw [List.set_set] at h; exact h))
      have HT_1 := Lib.hid (show (T.set j (⟨[], [(⟨(((q : Int)) % 3 == 0), ZP.xs, ZP.ys⟩, .slice a0 n0 d0, .slice a1 n1 d1), (ZQ, .slice a2 n2 d2, .slice a3 n3 d3)]⟩ : Rc))[j]? = some (⟨[], [(⟨(((q : Int)) % 3 == 0), ZP.xs, ZP.ys⟩, .slice a0 n0 d0, .slice a1 n1 d1), (ZQ, .slice a2 n2 d2, .slice a3 n3 d3)]⟩ : Rc) from set_selfR HT.out)
      clear S_0
      refine (markIntS_at a0 n0 d0 (q + 1) w0.heap.size _ (by first | rfl | omega | (push_cast; omega)) _ _ ((S_1.out.own 0 rfl).at_ (j * 4 + 0) (rowsR_at (rowsR_lens (shR_set HSH.out j ⟨rfl, rfl⟩) rfl) HT_1.out 0 rfl)) (by omega)).mono ?_
      rintro e w1 ⟨rfl, ho, hg⟩
      rw [← ints_marksZ] at ho
      have S_2 := Lib.hid (show St w0 w1 ((b, cellsR (T.set j (⟨[], [(⟨(((q : Int)) % 3 == 0), marksZ (q + 1) n0, ZP.ys⟩, .slice a0 n0 d0, .slice a1 n1 d1), (ZQ, .slice a2 n2 d2, .slice a3 n3 d3)]⟩ : Rc))) :: bs) (rowsR (T.set j (⟨[], [(⟨(((q : Int)) % 3 == 0), marksZ (q + 1) n0, ZP.ys⟩, .slice a0 n0 d0, .slice a1 n1 d1), (ZQ, .slice a2 n2 d2, .slice a3 n3 d3)]⟩ : Rc)) :: cs) from by have h := S_1.out.markRow (rowsR_lens (shR_set HSH.out j ⟨rfl, rfl⟩) rfl) HT_1.out 0 _ (⟨[], [(⟨(((q : Int)) % 3 == 0), marksZ (q + 1) n0, ZP.ys⟩, .slice a0 n0 d0, .slice a1 n1 d1), (ZQ, .slice a2 n2 d2, .slice a3 n3 d3)]⟩ : Rc) rfl rfl rfl (by decide) ho hg; rw [List.set_set] at h; exact h)
      have HT_2 := Lib.hid (show (T.set j (⟨[], [(⟨(((q : Int)) % 3 == 0), marksZ (q + 1) n0, ZP.ys⟩, .slice a0 n0 d0, .slice a1 n1 d1), (ZQ, .slice a2 n2 d2, .slice a3 n3 d3)]⟩ : Rc))[j]? = some (⟨[], [(⟨(((q : Int)) % 3 == 0), marksZ (q + 1) n0, ZP.ys⟩, .slice a0 n0 d0, .slice a1 n1 d1), (ZQ, .slice a2 n2 d2, .slice a3 n3 d3)]⟩ : Rc) from set_selfR HT.out)
      clear ho hg S_1
      obtain ⟨q1, hq1⟩ : ∃ m : Nat, q + 1 + n0 = m := ⟨_, rfl⟩
      rw [hq1]
      have c2 : w1.cell? ⟨b, j * 6 + 2, none⟩ = some (.slice a1 n1 d1) := S_2.out.cellR (Sz.of (shR_set HSH.out j ⟨rfl, rfl⟩) rfl) HT_2.out 2 rfl
      go_wp2_with fail
      refine (markIntS_at a1 n1 d1 (q1) w0.heap.size _ (by first | rfl | omega | (push_cast; omega)) _ _ ((S_2.out.own 0 rfl).at_ (j * 4 + 1) (rowsR_at (rowsR_lens (shR_set HSH.out j ⟨rfl, rfl⟩) rfl) HT_2.out 1 rfl)) (by omega)).mono ?_
      rintro e w2 ⟨rfl, ho, hg⟩
      rw [← ints_marksZ] at ho
      have S_3 := Lib.hid (show St w0 w2 ((b, cellsR (T.set j (⟨[], [(⟨(((q : Int)) % 3 == 0), marksZ (q + 1) n0, marksZ (q1) n1⟩, .slice a0 n0 d0, .slice a1 n1 d1), (ZQ, .slice a2 n2 d2, .slice a3 n3 d3)]⟩ : Rc))) :: bs) (rowsR (T.set j (⟨[], [(⟨(((q : Int)) % 3 == 0), marksZ (q + 1) n0, marksZ (q1) n1⟩, .slice a0 n0 d0, .slice a1 n1 d1), (ZQ, .slice a2 n2 d2, .slice a3 n3 d3)]⟩ : Rc)) :: cs) from by have h := S_2.out.markRow (rowsR_lens (shR_set HSH.out j ⟨rfl, rfl⟩) rfl) HT_2.out 1 _ (⟨[], [(⟨(((q : Int)) % 3 == 0), marksZ (q + 1) n0, marksZ (q1) n1⟩, .slice a0 n0 d0, .slice a1 n1 d1), (ZQ, .slice a2 n2 d2, .slice a3 n3 d3)]⟩ : Rc) rfl rfl rfl (by decide) ho hg; rw [List.set_set] at h; exact h)
      have HT_3 := Lib.hid (show (T.set j (⟨[], [(⟨(((q : Int)) % 3 == 0), marksZ (q + 1) n0, marksZ (q1) n1⟩, .slice a0 n0 d0, .slice a1 n1 d1), (ZQ, .slice a2 n2 d2, .slice a3 n3 d3)]⟩ : Rc))[j]? = some (⟨[], [(⟨(((q : Int)) % 3 == 0), marksZ (q + 1) n0, marksZ (q1) n1⟩, .slice a0 n0 d0, .slice a1 n1 d1), (ZQ, .slice a2 n2 d2, .slice a3 n3 d3)]⟩ : Rc) from set_selfR HT.out)
      clear ho hg S_2 c2
      obtain ⟨q2, hq2⟩ : ∃ m : Nat, q1 + n1 = m := ⟨_, rfl⟩
      rw [hq2]
      have c3 : w2.cell? ⟨b, j * 6 + 3, none⟩ = some (.bool ZQ.s) := S_3.out.cellR (Sz.of (shR_set HSH.out j ⟨rfl, rfl⟩) rfl) HT_3.out 3 rfl
      have c4 : w2.cell? ⟨b, j * 6 + 4, none⟩ = some (.slice a2 n2 d2) := S_3.out.cellR (Sz.of (shR_set HSH.out j ⟨rfl, rfl⟩) rfl) HT_3.out 4 rfl
      have f3 : w2.frozen? ⟨b, j * 6 + 3, none⟩ = false := S_3.out.frozR (Sz.of (shR_set HSH.out j ⟨rfl, rfl⟩) rfl) HT_3.out 3 rfl
      go_wp2_with fail
      clear c3 c4 f3
      have S_4 := Lib.hid (show St w0 (w2.setCell ⟨b, j * 6 + 3, none⟩ (.bool ((q2 : Int) % 3 == 0))) ((b, cellsR (T.set j (⟨[], [(⟨(((q : Int)) % 3 == 0), marksZ (q + 1) n0, marksZ (q1) n1⟩, .slice a0 n0 d0, .slice a1 n1 d1), (⟨((q2 : Int) % 3 == 0), ZQ.xs, ZQ.ys⟩, .slice a2 n2 d2, .slice a3 n3 d3)]⟩ : Rc))) :: bs) (rowsR (T.set j (⟨[], [(⟨(((q : Int)) % 3 == 0), marksZ (q + 1) n0, marksZ (q1) n1⟩, .slice a0 n0 d0, .slice a1 n1 d1), (⟨((q2 : Int) % 3 == 0), ZQ.xs, ZQ.ys⟩, .slice a2 n2 d2, .slice a3 n3 d3)]⟩ : Rc)) :: cs) from by have h := S_3.out.setR (Sz.of (shR_set HSH.out j ⟨rfl, rfl⟩) rfl) HT_3.out 3 (.bool ((q2 : Int) % 3 == 0)) (⟨[], [(⟨(((q : Int)) % 3 == 0), marksZ (q + 1) n0, marksZ (q1) n1⟩, .slice a0 n0 d0, .slice a1 n1 d1), (⟨((q2 : Int) % 3 == 0), ZQ.xs, ZQ.ys⟩, .slice a2 n2 d2, .slice a3 n3 d3)]⟩ : Rc) rfl rfl (by decide); first | exact h | (rw [List.set_set] at h; exact h))
      have HT_4 := Lib.hid (show (T.set j (⟨[], [(⟨(((q : Int)) % 3 == 0), marksZ (q + 1) n0, marksZ (q1) n1⟩, .slice a0 n0 d0, .slice a1 n1 d1), (⟨((q2 : Int) % 3 == 0), ZQ.xs, ZQ.ys⟩, .slice a2 n2 d2, .slice a3 n3 d3)]⟩ : Rc))[j]? = some (⟨[], [(⟨(((q : Int)) % 3 == 0), marksZ (q + 1) n0, marksZ (q1) n1⟩, .slice a0 n0 d0, .slice a1 n1 d1), (⟨((q2 : Int) % 3 == 0), ZQ.xs, ZQ.ys⟩, .slice a2 n2 d2, .slice a3 n3 d3)]⟩ : Rc) from set_selfR HT.out)
      clear S_3
      refine (markIntS_at a2 n2 d2 (q2 + 1) w0.heap.size _ (by first | rfl | omega | (push_cast; omega)) _ _ ((S_4.out.own 0 rfl).at_ (j * 4 + 2) (rowsR_at (rowsR_lens (shR_set HSH.out j ⟨rfl, rfl⟩) rfl) HT_4.out 2 rfl)) (by omega)).mono ?_
      rintro e w3 ⟨rfl, ho, hg⟩
      rw [← ints_marksZ] at ho
      have S_5 := Lib.hid (show St w0 w3 ((b, cellsR (T.set j (⟨[], [(⟨(((q : Int)) % 3 == 0), marksZ (q + 1) n0, marksZ (q1) n1⟩, .slice a0 n0 d0, .slice a1 n1 d1), (⟨((q2 : Int) % 3 == 0), marksZ (q2 + 1) n2, ZQ.ys⟩, .slice a2 n2 d2, .slice a3 n3 d3)]⟩ : Rc))) :: bs) (rowsR (T.set j (⟨[], [(⟨(((q : Int)) % 3 == 0), marksZ (q + 1) n0, marksZ (q1) n1⟩, .slice a0 n0 d0, .slice a1 n1 d1), (⟨((q2 : Int) % 3 == 0), marksZ (q2 + 1) n2, ZQ.ys⟩, .slice a2 n2 d2, .slice a3 n3 d3)]⟩ : Rc)) :: cs) from by have h := S_4.out.markRow (rowsR_lens (shR_set HSH.out j ⟨rfl, rfl⟩) rfl) HT_4.out 2 _ (⟨[], [(⟨(((q : Int)) % 3 == 0), marksZ (q + 1) n0, marksZ (q1) n1⟩, .slice a0 n0 d0, .slice a1 n1 d1), (⟨((q2 : Int) % 3 == 0), marksZ (q2 + 1) n2, ZQ.ys⟩, .slice a2 n2 d2, .slice a3 n3 d3)]⟩ : Rc) rfl rfl rfl (by decide) ho hg; rw [List.set_set] at h; exact h)
      have HT_5 := Lib.hid (show (T.set j (⟨[], [(⟨(((q : Int)) % 3 == 0), marksZ (q + 1) n0, marksZ (q1) n1⟩, .slice a0 n0 d0, .slice a1 n1 d1), (⟨((q2 : Int) % 3 == 0), marksZ (q2 + 1) n2, ZQ.ys⟩, .slice a2 n2 d2, .slice a3 n3 d3)]⟩ : Rc))[j]? = some (⟨[], [(⟨(((q : Int)) % 3 == 0), marksZ (q + 1) n0, marksZ (q1) n1⟩, .slice a0 n0 d0, .slice a1 n1 d1), (⟨((q2 : Int) % 3 == 0), marksZ (q2 + 1) n2, ZQ.ys⟩, .slice a2 n2 d2, .slice a3 n3 d3)]⟩ : Rc) from set_selfR HT.out)
      clear ho hg S_4
      obtain ⟨q3, hq3⟩ : ∃ m : Nat, q2 + 1 + n2 = m := ⟨_, rfl⟩
      rw [hq3]
      have c5 : w3.cell? ⟨b, j * 6 + 5, none⟩ = some (.slice a3 n3 d3) := S_5.out.cellR (Sz.of (shR_set HSH.out j ⟨rfl, rfl⟩) rfl) HT_5.out 5 rfl
      go_wp2_with fail
      refine (markIntS_at a3 n3 d3 (q3) w0.heap.size _ (by first | rfl | omega | (push_cast; omega)) _ _ ((S_5.out.own 0 rfl).at_ (j * 4 + 3) (rowsR_at (rowsR_lens (shR_set HSH.out j ⟨rfl, rfl⟩) rfl) HT_5.out 3 rfl)) (by omega)).mono ?_
      rintro e w4 ⟨rfl, ho, hg⟩
      rw [← ints_marksZ] at ho
      have S_6 := Lib.hid (show St w0 w4 ((b, cellsR (T.set j (⟨[], [(⟨(((q : Int)) % 3 == 0), marksZ (q + 1) n0, marksZ (q1) n1⟩, .slice a0 n0 d0, .slice a1 n1 d1), (⟨((q2 : Int) % 3 == 0), marksZ (q2 + 1) n2, marksZ (q3) n3⟩, .slice a2 n2 d2, .slice a3 n3 d3)]⟩ : Rc))) :: bs) (rowsR (T.set j (⟨[], [(⟨(((q : Int)) % 3 == 0), marksZ (q + 1) n0, marksZ (q1) n1⟩, .slice a0 n0 d0, .slice a1 n1 d1), (⟨((q2 : Int) % 3 == 0), marksZ (q2 + 1) n2, marksZ (q3) n3⟩, .slice a2 n2 d2, .slice a3 n3 d3)]⟩ : Rc)) :: cs) from by have h := S_5.out.markRow (rowsR_lens (shR_set HSH.out j ⟨rfl, rfl⟩) rfl) HT_5.out 3 _ (⟨[], [(⟨(((q : Int)) % 3 == 0), marksZ (q + 1) n0, marksZ (q1) n1⟩, .slice a0 n0 d0, .slice a1 n1 d1), (⟨((q2 : Int) % 3 == 0), marksZ (q2 + 1) n2, marksZ (q3) n3⟩, .slice a2 n2 d2, .slice a3 n3 d3)]⟩ : Rc) rfl rfl rfl (by decide) ho hg; rw [List.set_set] at h; exact h)
      have HT_6 := Lib.hid (show (T.set j (⟨[], [(⟨(((q : Int)) % 3 == 0), marksZ (q + 1) n0, marksZ (q1) n1⟩, .slice a0 n0 d0, .slice a1 n1 d1), (⟨((q2 : Int) % 3 == 0), marksZ (q2 + 1) n2, marksZ (q3) n3⟩, .slice a2 n2 d2, .slice a3 n3 d3)]⟩ : Rc))[j]? = some (⟨[], [(⟨(((q : Int)) % 3 == 0), marksZ (q + 1) n0, marksZ (q1) n1⟩, .slice a0 n0 d0, .slice a1 n1 d1), (⟨((q2 : Int) % 3 == 0), marksZ (q2 + 1) n2, marksZ (q3) n3⟩, .slice a2 n2 d2, .slice a3 n3 d3)]⟩ : Rc) from set_selfR HT.out)
      clear ho hg S_5 c5
      obtain ⟨q4, hq4⟩ : ∃ m : Nat, q3 + n3 = m := ⟨_, rfl⟩
      rw [hq4]
      have HZE := Lib.hid (show (⟨[], [(⟨(((q : Int)) % 3 == 0), marksZ (q + 1) n0, marksZ (q1) n1⟩, .slice a0 n0 d0, .slice a1 n1 d1), (⟨((q2 : Int) % 3 == 0), marksZ (q2 + 1) n2, marksZ (q3) n3⟩, .slice a2 n2 d2, .slice a3 n3 d3)]⟩ : Rc) = markRc q (⟨[], [(ZP, .slice a0 n0 d0, .slice a1 n1 d1), (ZQ, .slice a2 n2 d2, .slice a3 n3 d3)]⟩ : Rc) from by
        have e0 := HL0.out
        have e1 := HL1.out
        have e2 := HL2.out
        have e3 := HL3.out
        have l0 := HF0.out
        have l1 := HF1.out
        have E0 : (⟨(((q : Int)) % 3 == 0), marksZ (q + 1) n0, marksZ (q1) n1⟩ : Fr) = markFr (q + 0) ZP := markFr_eq (mod3R (k := q + 0) (by omega)) (by omega) (by omega) (by omega) (by omega)
        have E1 : (⟨((q2 : Int) % 3 == 0), marksZ (q2 + 1) n2, marksZ (q3) n3⟩ : Fr) = markFr (q + 0 + 1 + ZP.len) ZQ := markFr_eq (mod3R (k := q + 0 + 1 + ZP.len) (by omega)) (by omega) (by omega) (by omega) (by omega)
        show (⟨[], [(⟨(((q : Int)) % 3 == 0), marksZ (q + 1) n0, marksZ (q1) n1⟩, .slice a0 n0 d0, .slice a1 n1 d1), (⟨((q2 : Int) % 3 == 0), marksZ (q2 + 1) n2, marksZ (q3) n3⟩, .slice a2 n2 d2, .slice a3 n3 d3)]⟩ : Rc) = _
        rw [E0, E1]
        rfl)
      have HQ6 := Lib.hid (show q4 = markRAt 2 k zs (j + 1) by have h1 := HQ2.out; have h2 := HQ.out; rw [HZLEN.out] at h1; omega)
      have S_E := Lib.hid (show St w0 w4 ((b, cellsR (markRTo 2 k zs (j + 1))) :: bs) (rowsR (markRTo 2 k zs (j + 1)) :: cs) from by have h := S_6.out; rw [HZE.out, ← HTT.out] at h; rw [← markRTo_succ HZ.out, ← HQ.out]; exact h)
      clear S_6
      have hqlb : q4 ≤ 1073741824 := by omega
      clear hq1 hq2 hq3 hq4
      go_wp2
      exact ⟨⟨j + 1, q4, by omega, by go_num, rfl, HQ6.out, S_E.out⟩, by simp [intOf]; omega⟩
    · obtain rfl : j = n := by omega
      have HE := Lib.hid (show ((q : Nat) : Int) = ((k + 2 * j + lensR zs : Nat) : Int) by rw [HQ.out, ← HL.out, markRAt_all])
      go_wp2
      go_ret
      refine ⟨ret_int HE.out, ?_⟩
      have h := S_0.out
      rw [← HL.out, markRTo_all] at h
      exact h
end Go.Proofs.YtaboodioabopnaaGreat
