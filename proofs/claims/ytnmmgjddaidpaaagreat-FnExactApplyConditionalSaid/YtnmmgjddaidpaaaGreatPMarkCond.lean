/- Conditionals: how marks are kept; two stores one behind the other, the new blocks last. Conditions: none. -/
import Derived.Test.YtnmmgjddaidpaaaGreatPMarkParent
import Derived.Test.YtnmmgjddaidpaaaGreatPCond
namespace Go.Proofs.YtnmmgjddaidpaaaGreat
open Go.RowKit Nt Fr
set_option linter.unusedVariables false
theorem St.overE {w0 w w' : World} {bs bs2 : List (Nat × List Value)} {cs cs2 : List Chunk} (h : St w0 w bs cs) (h2 : St w w' bs2 cs2) : St w0 w' (bs ++ bs2) (cs2 ++ cs) := (h.over h2).perm List.perm_append_comm (List.Perm.refl _)
set_option maxRecDepth 100000 in
set_option maxHeartbeats 4000000 in
theorem markConditional_f (N : Int) (T : Fr) (t0 t1 : Value) (b n c k : Nat) (K : Int) (hK : K = (k : Int)) (zs : List Rc) (w0 w : World) (bs : List (Nat × List Value)) (cs : List Chunk) (hl : zs.length = n) (hsh : ∀ z ∈ zs, z.sh 1 3) (hS : St w0 w ((b, cellsR zs) :: bs) (rowsR zs :: [(t0, ints T.xs), (t1, ints T.ys)] :: cs)) (hn : k + T.len + 4 * n + lensR zs ≤ 1073741824) :
   Calls Tryz.prog 24 #[.agg #[.int .i64 N, .bool T.s, t0, t1, .slice (some ⟨b, 0, none⟩) n c], .int .i64 K] w fun e w' => e = .returned (.int .i64 ((k + T.len + 4 * n + lensR zs : Nat) : Int)) ∧ St w0 w' ((b, cellsR (markRs 4 (k + T.len) zs)) :: bs) (rowsR (markRs 4 (k + T.len) zs) :: markL k [(t0, ints T.xs), (t1, ints T.ys)] :: cs) := by
 subst hK
 obtain ⟨A0, n0, c0, rfl⟩ := ((hS.own 1 rfl).at_ 0 rfl).shape3
 obtain ⟨B0, m0, d0, rfl⟩ := ((hS.own 1 rfl).at_ 1 rfl).shape3
 have HLT := Lib.hid (show lenL [(.slice A0 n0 c0, ints T.xs), (.slice B0 m0 d0, ints T.ys)] = T.len by simp only [lenL, ints_len, Fr.len]; try omega)
 have S_1 := Lib.hid (hS.alloc [.int .i64 N, .bool T.s, .slice A0 n0 c0, .slice B0 m0 d0, .slice (some ⟨b, 0, none⟩) n c] 55)
 have HSH := Lib.hid hsh
 have HLZ := Lib.hid hl
 clear hS hsh hl
 go_enter Tryz.func24, Tryz.ntmps24
 go_wp2_with fail
 refine (markRat_f (.slice A0 n0 c0) (.slice B0 m0 d0) _ T.s (ints T.xs) (ints T.ys) k w0.heap.size _ rfl (S_1.out.own 1 rfl) (by rw [HLT.out]; omega)).mono ?_
 rintro e w1 ⟨rfl, ho, ht⟩
 rw [HLT.out]
 have S_2 := Lib.hid (S_1.out.marked 1 rfl ho ht)
 clear ho ht S_1
 have hk0 := S_2.out.cell 0 0 rfl rfl
 have hk1 := S_2.out.cell 0 1 rfl rfl
 have hk2 := S_2.out.cell 0 2 rfl rfl
 have hk3 := S_2.out.cell 0 3 rfl rfl
 have hk4 := S_2.out.cell 0 4 rfl rfl
 go_wp2_with fail
 refine (markParentS_f b n c (k + T.len) _ (by first | rfl | omega | (push_cast; omega)) zs w0 _ _ _ HLZ.out HSH.out (S_2.out.perm (List.Perm.swap _ _ _) (List.Perm.refl _)) (by omega)).mono ?_
 rintro e w2 ⟨rfl, hst⟩
 have S_3 := Lib.hid (hst.dropBox 1)
 clear hst S_2 hk0 hk1 hk2 hk3 hk4
 go_wp2
 go_ret
 exact ⟨rfl, S_3.out⟩
end Go.Proofs.YtnmmgjddaidpaaaGreat
