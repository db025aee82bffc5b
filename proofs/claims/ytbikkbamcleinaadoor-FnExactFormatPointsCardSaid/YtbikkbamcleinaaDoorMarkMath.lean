/- Slices of links: how marks are kept. Conditions: none. -/
import Derived.Test.YtbikkbamcleinaaDoorLinks
namespace Go.Proofs.YtbikkbamcleinaaDoor
open Go.RowKit Nt Fr
set_option linter.unusedVariables false

section
variable {w0 w w' : World} {bs bs' : List (Nat × List Value)} {cs cs' : List Chunk}
/-- The same blocks and chunks in another order. -/
theorem St.perm (h : St w0 w bs cs) (hb : bs'.Perm bs) (hc : cs'.Perm cs) : St w0 w bs' cs' :=
  ⟨h.below, fun p hp => h.box p (hb.subset hp), fun p hp => h.row p (hc.subset hp), (hb.pairwise_iff (fun {p q} (e : p.1 ≠ q.1) => e.symm)).mpr h.bb, (hc.pairwise_iff (fun {p q} (e : FarL p q) => e.symm)).mpr h.cc, fun p hp q hq => h.br p (hb.subset hp) q (hc.subset hq)⟩
theorem cons_erase_perm {α : Type} {l : List α} {i : Nat} {x : α} (h : l[i]? = some x) : (x :: l.eraseIdx i).Perm l := by
  induction l generalizing i with
  | nil => simp at h
  | cons y r ih =>
    cases i with
    | zero => simp at h; subst h; simp
    | succ i =>
      simp at h
      exact (List.Perm.swap y x (r.eraseIdx i)).trans ((ih h).cons y)
/-- A block and a chunk brought to the front. -/
theorem St.front (h : St w0 w bs cs) (i j : Nat) {p : Nat × List Value} {l : Chunk} (e : bs[i]? = some p) (e2 : cs[j]? = some l) : St w0 w (p :: bs.eraseIdx i) (l :: cs.eraseIdx j) := h.perm (cons_erase_perm e) (cons_erase_perm e2)
theorem St.frontC (h : St w0 w bs cs) (j : Nat) {l : Chunk} (e2 : cs[j]? = some l) : St w0 w bs (l :: cs.eraseIdx j) := h.perm (List.Perm.refl _) (cons_erase_perm e2)
end
theorem cellsL_cons (x : Lr) (r : List Lr) : cellsL (x :: r) = x.cells ++ cellsL r := by simp [cellsL]
theorem rowsL_cons (x : Lr) (r : List Lr) : rowsL (x :: r) = x.rows ++ rowsL r := by simp [rowsL]
theorem rowsL_app (a b : List Lr) : rowsL (a ++ b) = rowsL a ++ rowsL b := by simp [rowsL]
theorem cellsL_app (a b : List Lr) : cellsL (a ++ b) = cellsL a ++ cellsL b := by simp [cellsL]
theorem Lr.cells_len (z : Lr) : z.cells.length = 11 := rfl
theorem Lr.rows_len (z : Lr) : z.rows.length = 6 := rfl
theorem cellsL_set {zs : List Lr} {m t : Nat} {z z' : Lr} {v : Value} (ez : zs[m]? = some z) (h : z'.cells = z.cells.set t v) (ht : t < 11) : cellsL (zs.set m z') = (cellsL zs).set (m * 11 + t) v := by
  induction zs generalizing m with
  | nil => simp at ez
  | cons x r ih =>
    cases m with
    | zero =>
      simp at ez; subst ez
      rw [List.set_cons_zero, cellsL_cons, cellsL_cons, h, List.set_append_left _ _ (by rw [Lr.cells_len]; omega), Nat.zero_mul, Nat.zero_add]
    | succ m =>
      simp at ez
      rw [List.set_cons_succ, cellsL_cons, cellsL_cons, ih ez, List.set_append_right _ _ (by rw [Lr.cells_len]; omega), Lr.cells_len, show (m + 1) * 11 + t - 11 = m * 11 + t by omega]
theorem rowsL_set {zs : List Lr} {m t : Nat} {z z' : Lr} {v : Value × List Value} (ez : zs[m]? = some z) (h : z'.rows = z.rows.set t v) (ht : t < 6) : rowsL (zs.set m z') = (rowsL zs).set (m * 6 + t) v := by
  induction zs generalizing m with
  | nil => simp at ez
  | cons x r ih =>
    cases m with
    | zero =>
      simp at ez; subst ez
      rw [List.set_cons_zero, rowsL_cons, rowsL_cons, h, List.set_append_left _ _ (by rw [Lr.rows_len]; omega), Nat.zero_mul, Nat.zero_add]
    | succ m =>
      simp at ez
      rw [List.set_cons_succ, rowsL_cons, rowsL_cons, ih ez, List.set_append_right _ _ (by rw [Lr.rows_len]; omega), Lr.rows_len, show (m + 1) * 6 + t - 6 = m * 6 + t by omega]
theorem rowsL_at {ys : List Lr} {k : Nat} {y : Lr} (h : ys[k]? = some y) (j : Nat) {v : Value × List Value} (hj : y.rows[j]? = some v) : (rowsL ys)[k * 6 + j]? = some v := by
  induction ys generalizing k with
  | nil => simp at h
  | cons x r ih =>
    have hj6 : j < 6 := by have := (List.getElem?_eq_some_iff.mp hj).1; rw [Lr.rows_len] at this; exact this
    cases k with
    | zero =>
      simp at h; subst h
      rw [rowsL_cons, Nat.zero_mul, Nat.zero_add, List.getElem?_append_left (by rw [Lr.rows_len]; omega)]; exact hj
    | succ k =>
      simp at h
      rw [rowsL_cons, List.getElem?_append_right (by rw [Lr.rows_len]; omega), Lr.rows_len, show (k + 1) * 6 + j - 6 = k * 6 + j by omega]
      exact ih h
theorem flat_set_same {zs : List Lr} {m : Nat} {z z' : Lr} {β : Type} (f : Lr → List β) (ez : zs[m]? = some z) (h : f z' = f z) : (zs.set m z').flatMap f = zs.flatMap f := by
  induction zs generalizing m with
  | nil => simp at ez
  | cons x r ih =>
    cases m with
    | zero => simp at ez; subst ez; simp [h]
    | succ m => simp at ez; simp [ih ez]
section
variable {w0 w w' : World} {bs : List (Nat × List Value)} {cs : List Chunk} {b m t : Nat} {zs : List Lr} {z z' : Lr}
theorem St.cellL (h : St w0 w ((b, cellsL zs) :: bs) cs) (ez : zs[m]? = some z) (t : Nat) {v : Value} (et : z.cells[t]? = some v) : w.cell? ⟨b, m * 11 + t, none⟩ = some v := h.cell 0 (m * 11 + t) rfl (cellsL_at ez t et)
theorem St.frozL (h : St w0 w ((b, cellsL zs) :: bs) cs) (ez : zs[m]? = some z) (t : Nat) {v : Value} (et : z.cells[t]? = some v) : w.frozen? ⟨b, m * 11 + t, none⟩ = false := h.froz 0 (m * 11 + t) rfl (cellsL_at ez t et)
/-- A cell of one link is written. -/
theorem St.setL (h : St w0 w ((b, cellsL zs) :: bs) (rowsL zs :: cs)) (ez : zs[m]? = some z) (t : Nat) (v : Value) (z' : Lr) (hz : z'.cells = z.cells.set t v) (hr : z'.rows = z.rows) (ht : t < 11) : St w0 (w.setCell ⟨b, m * 11 + t, none⟩ v) ((b, cellsL (zs.set m z')) :: bs) (rowsL (zs.set m z') :: cs) := by
  have hu : ∃ u, z.cells[t]? = some u := ⟨_, List.getElem?_eq_getElem (by rw [Lr.cells_len]; exact ht)⟩
  obtain ⟨u, hu⟩ := hu
  have := h.set 0 (m * 11 + t) v rfl (cellsL_at ez t hu)
  rw [cellsL_set ez hz ht, show rowsL (zs.set m z') = rowsL zs from flat_set_same Lr.rows ez hr]
  exact this
/-- A row of one link is written anew. -/
theorem St.markR (h : St w0 w ((b, cellsL zs) :: bs) (rowsL zs :: cs)) (ez : zs[m]? = some z) (t : Nat) {v : Value} {X : List Value} (X' : List Value) (z' : Lr) (hz : z'.cells = z.cells) (hX : z.rows[t]? = some (v, X)) (hr : z'.rows = z.rows.set t (v, X')) (ht : t < 6) (ho : OwnV w' w0.heap.size 3 v X') (hg : w.grownBy w' v.ownBlock) : St w0 w' ((b, cellsL (zs.set m z')) :: bs) (rowsL (zs.set m z') :: cs) := by
  have hrow := rowsL_at ez t hX
  rw [show cellsL (zs.set m z') = cellsL zs from flat_set_same Lr.cells ez hz, rowsL_set ez hr ht]
  have hT := Turned.of_grown hg
  have hO := h.row (rowsL zs) (by simp)
  have hmem := List.mem_of_getElem? hrow
  refine h.turned hT ?_ rfl ?_ ?_ ?_
  · intro k hk
    simp only [List.mem_singleton] at hk
    exact ((hO.1 _ hmem).lt k hk.symm).1
  · simp only [List.map_cons]
    rw [map_set_same Prod.fst (y := (v, X')) hrow rfl]
  · intro p hp
    refine hT.held (h.box p hp).1 fun hx => ?_
    simp only [List.mem_singleton] at hx
    exact h.br p hp (rowsL zs) (by simp) _ hmem p.1 rfl hx.symm
  · intro l hl
    rcases List.mem_cons.mp hl with rfl | hl'
    · refine ⟨fun p hp => ?_, ?_⟩
      · obtain ⟨i, hi⟩ := List.mem_iff_getElem?.mp hp
        rcases getElem?_set_cases hi with ⟨_, rfl⟩ | ⟨ik, e3⟩
        · exact ho
        · refine hT.own (hO.1 p (List.mem_of_getElem? e3)) fun x hx => ?_
          simp only [List.mem_singleton] at hx
          subst hx
          obtain ⟨a1, a2⟩ := List.getElem?_eq_some_iff.mp e3
          obtain ⟨b1, b2⟩ := List.getElem?_eq_some_iff.mp hrow
          have P := List.pairwise_iff_getElem.mp hO.2
          rcases Nat.lt_or_gt_of_ne ik with l' | l'
          · have := P _ _ a1 b1 l'; rw [a2, b2] at this; exact this
          · have := P _ _ b1 a1 l'; rw [a2, b2] at this; exact this.symm
      · have e := map_set_same Prod.fst (y := (v, X')) hrow rfl
        have P : ((rowsL zs).map Prod.fst).Pairwise fun p q => Far (Value.ownBlock p) (Value.ownBlock q) := by
          rw [List.pairwise_map]; exact hO.2
        rw [← e, List.pairwise_map] at P
        exact P
    · have hl2 := List.mem_cons_of_mem (rowsL zs) hl'
      refine ⟨fun p hp => hT.own ((h.row l hl2).1 p hp) fun x hx => ?_, (h.row l hl2).2⟩
      simp only [List.mem_singleton] at hx
      subst hx
      exact ((List.pairwise_cons.mp h.cc).1 l hl' _ hmem p hp).symm
end
/-- Marks. -/
def marksZ (k n : Nat) : List Int := (List.range n).map fun i => ((k + i : Nat) : Int)
theorem ints_marksZ (k n : Nat) : ints (marksZ k n) = marksI k n := by simp [ints, marksZ, marksI]
theorem marksZ_len (k n : Nat) : (marksZ k n).length = n := by simp [marksZ]
def markFr (k : Nat) (F : Fr) : Fr := ⟨k % 3 == 0, marksZ (k + 1) F.xs.length, marksZ (k + 1 + F.xs.length) F.ys.length⟩
theorem markFr_len (k : Nat) (F : Fr) : (markFr k F).len = F.len := by simp [markFr, Fr.len, marksZ_len]
def markLr (k : Nat) (z : Lr) : Lr := { z with A := (k : Nat), B := ((k + 1 : Nat) : Int), P := markFr (k + 2) z.P, Q := markFr (k + 3 + z.P.len) z.Q, R := markFr (k + 4 + z.P.len + z.Q.len) z.R }
theorem markLr_len (k : Nat) (z : Lr) : (markLr k z).len = z.len := by simp [markLr, Lr.len, markFr_len]
def markLs : Nat → List Lr → List Lr
  | _, [] => []
  | k, z :: r => markLr k z :: markLs (k + 5 + z.len) r
theorem markLs_length (k : Nat) (zs : List Lr) : (markLs k zs).length = zs.length := by
  induction zs generalizing k with
  | nil => rfl
  | cons z r ih => simp [markLs, ih]
theorem markLs_app (k : Nat) (a b : List Lr) : markLs k (a ++ b) = markLs k a ++ markLs (k + 5 * a.length + lensL a) b := by
  induction a generalizing k with
  | nil => simp [markLs, lensL]
  | cons z r ih => simp only [List.cons_append, markLs, ih, lensL, List.length_cons]; rw [show k + 5 + z.len + 5 * r.length + lensL r = k + 5 * (r.length + 1) + (z.len + lensL r) by omega]
/-- The first j marked. -/
def markTo (k : Nat) (zs : List Lr) (j : Nat) : List Lr := markLs k (zs.take j) ++ zs.drop j
def markAt (k : Nat) (zs : List Lr) (j : Nat) : Nat := k + 5 * j + lensL (zs.take j)
theorem markTo_zero (k : Nat) (zs : List Lr) : markTo k zs 0 = zs := by simp [markTo, markLs]
theorem markTo_all (k : Nat) (zs : List Lr) : markTo k zs zs.length = markLs k zs := by simp [markTo]
theorem markTo_at {k : Nat} {zs : List Lr} {j : Nat} {z : Lr} (h : zs[j]? = some z) : (markTo k zs j)[j]? = some z := by
  have hj := (List.getElem?_eq_some_iff.mp h).1
  have hl : (markLs k (zs.take j)).length = j := by rw [markLs_length, List.length_take]; omega
  unfold markTo
  rw [List.getElem?_append_right (by omega), hl, Nat.sub_self, List.getElem?_drop, Nat.add_zero]; exact h
theorem markTo_succ {k : Nat} {zs : List Lr} {j : Nat} {z : Lr} (h : zs[j]? = some z) : (markTo k zs j).set j (markLr (markAt k zs j) z) = markTo k zs (j + 1) := by
  obtain ⟨hj, e⟩ := List.getElem?_eq_some_iff.mp h
  have hl : (markLs k (zs.take j)).length = j := by rw [markLs_length, List.length_take]; omega
  unfold markTo
  rw [List.set_append_right _ _ (by omega), hl, Nat.sub_self, List.drop_eq_getElem_cons hj, e, List.set_cons_zero, List.take_succ_eq_append_getElem hj, e, markLs_app]
  have ht : (zs.take j).length = j := by rw [List.length_take]; omega
  simp only [markLs, ht, List.append_assoc, List.cons_append, List.nil_append]
  rfl
theorem markAt_succ {k : Nat} {zs : List Lr} {j : Nat} {z : Lr} (h : zs[j]? = some z) : markAt k zs (j + 1) = markAt k zs j + 5 + z.len := by
  unfold markAt; rw [lensL_take_succ h]; omega
theorem markAt_le (k : Nat) (zs : List Lr) (j : Nat) (hj : j ≤ zs.length) : markAt k zs j ≤ k + 5 * zs.length + lensL zs := by
  unfold markAt; have := lensL_take_le zs j; omega
theorem markAt_all (k : Nat) (zs : List Lr) : markAt k zs zs.length = k + 5 * zs.length + lensL zs := by simp [markAt]
end Go.Proofs.YtbikkbamcleinaaDoor
