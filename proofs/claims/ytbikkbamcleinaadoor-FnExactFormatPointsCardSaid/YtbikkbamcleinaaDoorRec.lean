/- Records: integers, then fractions; slices of them: how they read, how they are kept. Conditions: none. -/
import Derived.Test.YtbikkbamcleinaaDoorMarkMath
namespace Go.Proofs.YtbikkbamcleinaaDoor
open Go.RowKit Nt Fr
set_option linter.unusedVariables false

/-- Two stores one behind the other. -/
theorem St.over {w0 w w' : World} {bs bs2 : List (Nat × List Value)} {cs cs2 : List Chunk} (h : St w0 w bs cs) (h2 : St w w' bs2 cs2) : St w0 w' (bs2 ++ bs) (cs2 ++ cs) := by
  have h' := h.call h2.below
  refine ⟨h'.below, fun p hp => ?_, fun l hl => ?_, List.pairwise_append.mpr ⟨h2.bb, h'.bb, fun p hp q hq => ?_⟩, List.pairwise_append.mpr ⟨h2.cc, h'.cc, fun l hl m hm => ?_⟩, fun p hp l hl q hq => ?_⟩
  · rcases List.mem_append.mp hp with a | a
    · exact ⟨(h2.box p a).1, Nat.le_trans h.size (h2.box p a).2⟩
    · exact h'.box p a
  · rcases List.mem_append.mp hl with a | a
    · exact (h2.row l a).based h.size
    · exact h'.row l a
  · have a := (h2.box p hp).2
    have b := (h.box q hq).1.lt
    omega
  · exact (h.row m hm).newer (h2.row l hl) (Nat.le_refl _)
  · rcases List.mem_append.mp hp with a | a
    · rcases List.mem_append.mp hl with c | c
      · exact h2.br p a l c q hq
      · intro k e1 e2
        have x := (h2.box p a).2
        have y := (((h.row l c).1 q hq).lt k e2).2
        obtain rfl : p.1 = k := by simpa using e1
        omega
    · rcases List.mem_append.mp hl with c | c
      · intro k e1 e2
        have x := (h.box p a).1.lt
        have y := (((h2.row l c).1 q hq).lt k e2).1
        obtain rfl : p.1 = k := by simpa using e1
        omega
      · exact h'.br p a l c q hq
/-- A fraction and the two slices where its limbs lie. -/
abbrev Fv := Fr × Value × Value
/-- A record as it lies in memory. -/
structure Rc where
  is : List Int
  fs : List Fv
namespace Rc
def frc (f : Fv) : List Value := [.bool f.1.s, f.2.1, f.2.2]
def frr (f : Fv) : Chunk := [(f.2.1, ints f.1.xs), (f.2.2, ints f.1.ys)]
def lens : List Fv → Nat
  | [] => 0
  | f :: r => f.1.len + lens r
def cells (z : Rc) : List Value := z.is.map (Value.int .i64) ++ z.fs.flatMap frc
def rows (z : Rc) : Chunk := z.fs.flatMap frr
def len (z : Rc) : Nat := lens z.fs
def rd (w : World) (z : Rc) : Prop := ∀ f ∈ z.fs, FrI w f.1 f.2.1 f.2.2
def ra (w : World) (z : Rc) : Prop := ∀ f ∈ z.fs, FrA w f.1 f.2.1 f.2.2
/-- What it says, wherever it lies. -/
def dat (z : Rc) : List Int × List Fr := (z.is, z.fs.map (·.1))
def sh (ni nf : Nat) (z : Rc) : Prop := z.is.length = ni ∧ z.fs.length = nf
theorem rd.below {w w' : World} {z : Rc} (h : z.rd w) (hb : Below w.heap.size w w') : z.rd w' := fun f hf => (h f hf).below hb
theorem ra.below {w w' : World} {z : Rc} (h : z.ra w) (hb : Below w.heap.size w w') : z.ra w' := fun f hf => (h f hf).below hb
theorem ra.rd {w : World} {z : Rc} (h : z.ra w) : z.rd w := fun f hf => (h f hf).i
theorem frcs_len (l : List Fv) : (l.flatMap frc).length = 3 * l.length := by
  induction l with
  | nil => rfl
  | cons f r ih => simp [frc] at ih ⊢; omega
theorem frrs_len (l : List Fv) : (l.flatMap frr).length = 2 * l.length := by
  induction l with
  | nil => rfl
  | cons f r ih => simp [frr] at ih ⊢; omega
theorem cells_len {ni nf : Nat} {z : Rc} (h : z.sh ni nf) : z.cells.length = ni + 3 * nf := by
  simp only [cells, List.length_append, List.length_map, frcs_len, h.1, h.2]
theorem rows_len {ni nf : Nat} {z : Rc} (h : z.sh ni nf) : z.rows.length = 2 * nf := by simp only [rows, frrs_len, h.2]
theorem sh_dat {ni nf : Nat} {y z : Rc} (h : y.dat = z.dat) (hz : z.sh ni nf) : y.sh ni nf := by
  obtain ⟨h1, h2⟩ := Prod.ext_iff.mp h
  refine ⟨?_, ?_⟩
  · have := congrArg List.length h1; simp only [dat] at this; rw [this]; exact hz.1
  · have := congrArg List.length h2; simp only [dat, List.length_map] at this; rw [this]; exact hz.2
theorem lens_map (l : List Fv) : lens l = ((l.map (·.1)).map Fr.len).sum := by
  induction l with
  | nil => rfl
  | cons f r ih => simp [lens, ih]
theorem len_dat {y z : Rc} (h : y.dat = z.dat) : y.len = z.len := by
  obtain ⟨_, h2⟩ := Prod.ext_iff.mp h
  simp only [dat] at h2
  simp only [len, lens_map, h2]
theorem sh13 {z : Rc} (h : z.sh 1 3) : ∃ A P p0 p1 Q q0 q1 R r0 r1, z = ⟨[A], [(P, p0, p1), (Q, q0, q1), (R, r0, r1)]⟩ := by
  obtain ⟨i, f⟩ := z
  obtain ⟨h1, h2⟩ := h
  simp only at h1 h2
  match i, h1, f, h2 with
  | [A], _, [(P, p0, p1), (Q, q0, q1), (R, r0, r1)], _ => exact ⟨A, P, p0, p1, Q, q0, q1, R, r0, r1, rfl⟩
theorem sh02 {z : Rc} (h : z.sh 0 2) : ∃ P p0 p1 Q q0 q1, z = ⟨[], [(P, p0, p1), (Q, q0, q1)]⟩ := by
  obtain ⟨i, f⟩ := z
  obtain ⟨h1, h2⟩ := h
  simp only at h1 h2
  match i, h1, f, h2 with
  | [], _, [(P, p0, p1), (Q, q0, q1)], _ => exact ⟨P, p0, p1, Q, q0, q1, rfl⟩
theorem sh01 {z : Rc} (h : z.sh 0 1) : ∃ P p0 p1, z = ⟨[], [(P, p0, p1)]⟩ := by
  obtain ⟨i, f⟩ := z
  obtain ⟨h1, h2⟩ := h
  simp only at h1 h2
  match i, h1, f, h2 with
  | [], _, [(P, p0, p1)], _ => exact ⟨P, p0, p1, rfl⟩
end Rc
/-- The slice reads as these records, S cells an element. -/
structure RRow (S ni nf : Nat) (w : World) (A : Option Addr) (n : Nat) (zs : List Rc) : Prop where
  len : zs.length = n
  cell : 0 < n → ∃ g o, A = some ⟨g, o, none⟩ ∧ g < w.heap.size ∧ ∀ k (hk : k < zs.length) (j : Nat) (v : Value), (zs[k].cells)[j]? = some v → w.cell? ⟨g, o + k * S + j, none⟩ = some v
  rd : ∀ z ∈ zs, z.rd w
  sh : ∀ z ∈ zs, z.sh ni nf
section
variable {S ni nf : Nat} {w w' : World} {A : Option Addr} {n : Nat} {zs : List Rc}
theorem RRow.below (h : RRow S ni nf w A n zs) (hb : Below w.heap.size w w') : RRow S ni nf w' A n zs := by
  refine ⟨h.len, fun hn => ?_, fun z hz => (h.rd z hz).below hb, h.sh⟩
  obtain ⟨g, o, rfl, hg, hc⟩ := h.cell hn
  exact ⟨g, o, rfl, Nat.lt_of_lt_of_le hg hb.size, fun k hk j v hj => (hb.cell (p := ⟨g, o + k * S + j, none⟩) hg).trans (hc k hk j v hj)⟩
theorem RRow.at_ (h : RRow S ni nf w A n zs) {k : Nat} (hk : k < n) : ∃ g o z, A = some ⟨g, o, none⟩ ∧ g < w.heap.size ∧ zs[k]? = some z ∧ z.rd w ∧ z.sh ni nf ∧ ∀ (j : Nat) (v : Value), (z.cells)[j]? = some v → w.cell? ⟨g, o + k * S + j, none⟩ = some v := by
  obtain ⟨g, o, e, hg, hc⟩ := h.cell (by omega)
  have hk' : k < zs.length := by rw [h.len]; exact hk
  exact ⟨g, o, zs[k], e, hg, List.getElem?_eq_getElem hk', h.rd _ (List.getElem_mem hk'), h.sh _ (List.getElem_mem hk'), hc k hk'⟩
theorem RRow.nil : RRow S ni nf w none 0 [] := ⟨rfl, fun h => absurd h (Nat.lt_irrefl 0), by simp, by simp⟩
end
/-- A slice of records to be read by the program: .. its fractions' rows are good to be read. -/
structure RArg (S ni nf : Nat) (w : World) (A : Option Addr) (n : Nat) (zs : List Rc) : Prop where
  row : RRow S ni nf w A n zs
  arg : ∀ z ∈ zs, z.ra w
theorem RArg.below {S ni nf : Nat} {w w' : World} {A : Option Addr} {n : Nat} {zs : List Rc} (h : RArg S ni nf w A n zs) (hb : Below w.heap.size w w') : RArg S ni nf w' A n zs := ⟨h.row.below hb, fun z hz => (h.arg z hz).below hb⟩
def dats (zs : List Rc) : List (List Int × List Fr) := zs.map Rc.dat
theorem dats_len (zs : List Rc) : (dats zs).length = zs.length := by simp [dats]
theorem dats_app' (a b : List Rc) : dats (a ++ b) = dats a ++ dats b := by simp [dats]
theorem dats_at {ys zs : List Rc} (h : dats ys = dats zs) {i : Nat} {y z : Rc} (hy : ys[i]? = some y) (hz : zs[i]? = some z) : y.dat = z.dat := by
  have h1 : (dats ys)[i]? = some y.dat := by simp [dats, hy]
  have h2 : (dats zs)[i]? = some z.dat := by simp [dats, hz]
  rw [h, h2] at h1
  exact (Option.some.inj h1).symm
/-- How many limbs. -/
def lensR : List Rc → Nat
  | [] => 0
  | z :: zs => z.len + lensR zs
theorem lensR_app (a b : List Rc) : lensR (a ++ b) = lensR a + lensR b := by
  induction a with
  | nil => simp [lensR]
  | cons z r ih => simp [lensR, ih]; omega
theorem lensR_take_succ {zs : List Rc} {k : Nat} {z : Rc} (h : zs[k]? = some z) : lensR (zs.take (k + 1)) = lensR (zs.take k) + z.len := by
  obtain ⟨hk, e⟩ := List.getElem?_eq_some_iff.mp h
  rw [List.take_succ_eq_append_getElem hk, lensR_app, e]; simp [lensR]
theorem lensR_take_le (zs : List Rc) (k : Nat) : lensR (zs.take k) ≤ lensR zs := by
  have := lensR_app (zs.take k) (zs.drop k)
  rw [List.take_append_drop] at this; omega
theorem lenR_le {zs : List Rc} {k : Nat} {z : Rc} (h : zs[k]? = some z) : z.len ≤ lensR zs := by
  have h1 := lensR_take_succ h
  have h2 := lensR_take_le zs (k + 1)
  omega
theorem lensR_dats {ys zs : List Rc} (h : dats ys = dats zs) : lensR ys = lensR zs := by
  induction ys generalizing zs with
  | nil =>
    have := congrArg List.length h
    simp only [dats_len, List.length_nil] at this
    rw [List.eq_nil_of_length_eq_zero this.symm]
  | cons y r ih =>
    cases zs with
    | nil => simp [dats] at h
    | cons z s =>
      simp only [dats, List.map_cons, List.cons.injEq] at h
      simp only [lensR, Rc.len_dat h.1, ih h.2]
def cellsR (ys : List Rc) : List Value := ys.flatMap Rc.cells
def rowsR (ys : List Rc) : Chunk := ys.flatMap Rc.rows
theorem cellsR_cons (x : Rc) (r : List Rc) : cellsR (x :: r) = x.cells ++ cellsR r := by simp [cellsR]
theorem rowsR_cons (x : Rc) (r : List Rc) : rowsR (x :: r) = x.rows ++ rowsR r := by simp [rowsR]
theorem cellsR_app (a b : List Rc) : cellsR (a ++ b) = cellsR a ++ cellsR b := by simp [cellsR]
theorem rowsR_app (a b : List Rc) : rowsR (a ++ b) = rowsR a ++ rowsR b := by simp [rowsR]
/-- All of one size. -/
def Sz (S : Nat) (ys : List Rc) : Prop := ∀ y ∈ ys, y.cells.length = S
theorem Sz.of {ni nf : Nat} {ys : List Rc} (h : ∀ y ∈ ys, y.sh ni nf) {S : Nat} (e : ni + 3 * nf = S) : Sz S ys := fun y hy => by rw [Rc.cells_len (h y hy), e]
theorem cellsR_len {S : Nat} {ys : List Rc} (h : Sz S ys) : (cellsR ys).length = ys.length * S := by
  induction ys with
  | nil => simp [cellsR]
  | cons y r ih => rw [cellsR_cons, List.length_append, ih (fun x hx => h x (by simp [hx])), h y (by simp), List.length_cons, Nat.succ_mul]; omega
theorem cellsR_at {S : Nat} {ys : List Rc} (hS : Sz S ys) {k : Nat} {y : Rc} (h : ys[k]? = some y) (j : Nat) {v : Value} (hj : y.cells[j]? = some v) : (cellsR ys)[k * S + j]? = some v := by
  induction ys generalizing k with
  | nil => simp at h
  | cons x r ih =>
    have hl : x.cells.length = S := hS x (by simp)
    have hjS : j < S := by have h1 := (List.getElem?_eq_some_iff.mp hj).1; rw [hS y (List.mem_of_getElem? h)] at h1; exact h1
    cases k with
    | zero =>
      simp at h; subst h
      rw [cellsR_cons, Nat.zero_mul, Nat.zero_add, List.getElem?_append_left (by omega)]; exact hj
    | succ k =>
      simp at h
      rw [cellsR_cons, List.getElem?_append_right (by rw [hl, Nat.succ_mul]; omega), hl, show (k + 1) * S + j - S = k * S + j by rw [Nat.succ_mul]; omega]
      exact ih (fun x hx => hS x (by simp [hx])) h
theorem rowsR_at {m : Nat} {ys : List Rc} (hS : ∀ y ∈ ys, y.rows.length = m) {k : Nat} {y : Rc} (h : ys[k]? = some y) (j : Nat) {v : Value × List Value} (hj : y.rows[j]? = some v) : (rowsR ys)[k * m + j]? = some v := by
  induction ys generalizing k with
  | nil => simp at h
  | cons x r ih =>
    have hl : x.rows.length = m := hS x (by simp)
    have hjS : j < m := by have h1 := (List.getElem?_eq_some_iff.mp hj).1; rw [hS y (List.mem_of_getElem? h)] at h1; exact h1
    cases k with
    | zero =>
      simp at h; subst h
      rw [rowsR_cons, Nat.zero_mul, Nat.zero_add, List.getElem?_append_left (by omega)]; exact hj
    | succ k =>
      simp at h
      rw [rowsR_cons, List.getElem?_append_right (by rw [hl, Nat.succ_mul]; omega), hl, show (k + 1) * m + j - m = k * m + j by rw [Nat.succ_mul]; omega]
      exact ih (fun x hx => hS x (by simp [hx])) h
theorem rowsR_ra {w : World} {base : Nat} {ys : List Rc} (h : Owns w base (rowsR ys)) : ∀ y ∈ ys, y.ra w := by
  intro y hy f hf
  have hr : Owns w base (Rc.frr f) := by
    obtain ⟨a, b, rfl⟩ := List.append_of_mem hy
    obtain ⟨i, fs⟩ := y
    obtain ⟨c, d, rfl⟩ := List.append_of_mem (show f ∈ fs from hf)
    refine h.part (rowsR a ++ c.flatMap Rc.frr) (Rc.frr f) (d.flatMap Rc.frr ++ rowsR b) ?_
    simp [rowsR, Rc.rows]
  exact hr.frAt 0 rfl rfl
theorem St.rrow {S ni nf : Nat} {w0 w : World} {bs : List (Nat × List Value)} {cs : List Chunk} (h : St w0 w bs cs) (i k : Nat) {b : Nat} {ys : List Rc} (hs : ∀ y ∈ ys, y.sh ni nf) (eS : ni + 3 * nf = S) (e : bs[i]? = some (b, cellsR ys)) (e2 : cs[k]? = some (rowsR ys)) : RRow S ni nf w (some ⟨b, 0, none⟩) ys.length ys :=
  ⟨rfl, fun _ => ⟨b, 0, rfl, h.lt i e, fun m hm j v hj => by rw [Nat.zero_add]; exact h.cell i _ e (cellsR_at (Sz.of hs eS) (List.getElem?_eq_getElem hm) j hj)⟩, fun z hz => (rowsR_ra (h.own k e2) z hz).rd, hs⟩
theorem St.rarg {S ni nf : Nat} {w0 w : World} {bs : List (Nat × List Value)} {cs : List Chunk} (h : St w0 w bs cs) (i k : Nat) {b : Nat} {ys : List Rc} (hs : ∀ y ∈ ys, y.sh ni nf) (eS : ni + 3 * nf = S) (e : bs[i]? = some (b, cellsR ys)) (e2 : cs[k]? = some (rowsR ys)) : RArg S ni nf w (some ⟨b, 0, none⟩) ys.length ys :=
  ⟨h.rrow i k hs eS e e2, rowsR_ra (h.own k e2)⟩
theorem cellsR_set {S : Nat} {zs : List Rc} (hS : Sz S zs) {m t : Nat} {z z' : Rc} {v : Value} (ez : zs[m]? = some z) (h : z'.cells = z.cells.set t v) (ht : t < S) : cellsR (zs.set m z') = (cellsR zs).set (m * S + t) v := by
  induction zs generalizing m with
  | nil => simp at ez
  | cons x r ih =>
    have hx : x.cells.length = S := hS x (by simp)
    cases m with
    | zero =>
      simp at ez; subst ez
      rw [List.set_cons_zero, cellsR_cons, cellsR_cons, h, List.set_append_left _ _ (by omega), Nat.zero_mul, Nat.zero_add]
    | succ m =>
      simp at ez
      rw [List.set_cons_succ, cellsR_cons, cellsR_cons, ih (fun x hx => hS x (by simp [hx])) ez, List.set_append_right _ _ (by rw [hx, Nat.succ_mul]; omega), hx, show (m + 1) * S + t - S = m * S + t by rw [Nat.succ_mul]; omega]
theorem rowsR_set {M : Nat} {zs : List Rc} (hS : ∀ y ∈ zs, y.rows.length = M) {m t : Nat} {z z' : Rc} {v : Value × List Value} (ez : zs[m]? = some z) (h : z'.rows = z.rows.set t v) (ht : t < M) : rowsR (zs.set m z') = (rowsR zs).set (m * M + t) v := by
  induction zs generalizing m with
  | nil => simp at ez
  | cons x r ih =>
    have hx : x.rows.length = M := hS x (by simp)
    cases m with
    | zero =>
      simp at ez; subst ez
      rw [List.set_cons_zero, rowsR_cons, rowsR_cons, h, List.set_append_left _ _ (by omega), Nat.zero_mul, Nat.zero_add]
    | succ m =>
      simp at ez
      rw [List.set_cons_succ, rowsR_cons, rowsR_cons, ih (fun x hx => hS x (by simp [hx])) ez, List.set_append_right _ _ (by rw [hx, Nat.succ_mul]; omega), hx, show (m + 1) * M + t - M = m * M + t by rw [Nat.succ_mul]; omega]
theorem flatR_set_same {zs : List Rc} {m : Nat} {z z' : Rc} {β : Type} (f : Rc → List β) (ez : zs[m]? = some z) (h : f z' = f z) : (zs.set m z').flatMap f = zs.flatMap f := by
  induction zs generalizing m with
  | nil => simp at ez
  | cons x r ih =>
    cases m with
    | zero => simp at ez; subst ez; simp [h]
    | succ m => simp at ez; simp [ih ez]
section
variable {S M : Nat} {w0 w w' : World} {bs : List (Nat × List Value)} {cs : List Chunk} {b m t : Nat} {zs : List Rc} {z z' : Rc}
theorem St.cellR (h : St w0 w ((b, cellsR zs) :: bs) cs) (hS : Sz S zs) (ez : zs[m]? = some z) (t : Nat) {v : Value} (et : z.cells[t]? = some v) : w.cell? ⟨b, m * S + t, none⟩ = some v := h.cell 0 (m * S + t) rfl (cellsR_at hS ez t et)
theorem St.frozR (h : St w0 w ((b, cellsR zs) :: bs) cs) (hS : Sz S zs) (ez : zs[m]? = some z) (t : Nat) {v : Value} (et : z.cells[t]? = some v) : w.frozen? ⟨b, m * S + t, none⟩ = false := h.froz 0 (m * S + t) rfl (cellsR_at hS ez t et)
/-- A cell of one record is written. -/
theorem St.setR (h : St w0 w ((b, cellsR zs) :: bs) (rowsR zs :: cs)) (hS : Sz S zs) (ez : zs[m]? = some z) (t : Nat) (v : Value) (z' : Rc) (hz : z'.cells = z.cells.set t v) (hr : z'.rows = z.rows) (ht : t < S) : St w0 (w.setCell ⟨b, m * S + t, none⟩ v) ((b, cellsR (zs.set m z')) :: bs) (rowsR (zs.set m z') :: cs) := by
  have hu : ∃ u, z.cells[t]? = some u := ⟨_, List.getElem?_eq_getElem (by rw [hS z (List.mem_of_getElem? ez)]; exact ht)⟩
  obtain ⟨u, hu⟩ := hu
  have := h.set 0 (m * S + t) v rfl (cellsR_at hS ez t hu)
  rw [cellsR_set hS ez hz ht, show rowsR (zs.set m z') = rowsR zs from flatR_set_same Rc.rows ez hr]
  exact this
/-- A row of one record is written anew. -/
theorem St.markRow (h : St w0 w ((b, cellsR zs) :: bs) (rowsR zs :: cs)) (hM : ∀ y ∈ zs, y.rows.length = M) (ez : zs[m]? = some z) (t : Nat) {v : Value} {X : List Value} (X' : List Value) (z' : Rc) (hz : z'.cells = z.cells) (hX : z.rows[t]? = some (v, X)) (hr : z'.rows = z.rows.set t (v, X')) (ht : t < M) (ho : OwnV w' w0.heap.size 3 v X') (hg : w.grownBy w' v.ownBlock) : St w0 w' ((b, cellsR (zs.set m z')) :: bs) (rowsR (zs.set m z') :: cs) := by
  have hrow := rowsR_at hM ez t hX
  rw [show cellsR (zs.set m z') = cellsR zs from flatR_set_same Rc.cells ez hz, rowsR_set hM ez hr ht]
  have hT := Turned.of_grown hg
  have hO := h.row (rowsR zs) (by simp)
  have hmem := List.mem_of_getElem? hrow
  refine h.turned hT ?_ rfl ?_ ?_ ?_
  · intro k hk
    simp only [List.mem_singleton] at hk
    exact ((hO.1 _ hmem).lt k hk.symm).1
  · simp only [List.map_cons]
    rw [map_set_same Prod.fst (y := (v, X')) hrow rfl]
  · intro p hp
    refine hT.held (h.box p hp).1 fun hx => ?_
    simp only [List.mem_singleton] at hx
    exact h.br p hp (rowsR zs) (by simp) _ hmem p.1 rfl hx.symm
  · intro l hl
    rcases List.mem_cons.mp hl with rfl | hl'
    · refine ⟨fun p hp => ?_, ?_⟩
      · obtain ⟨i, hi⟩ := List.mem_iff_getElem?.mp hp
        rcases getElem?_set_cases hi with ⟨_, rfl⟩ | ⟨ik, e3⟩
        · exact ho
        · refine hT.own (hO.1 p (List.mem_of_getElem? e3)) fun x hx => ?_
          simp only [List.mem_singleton] at hx
          subst hx
          obtain ⟨a1, a2⟩ := List.getElem?_eq_some_iff.mp e3
          obtain ⟨b1, b2⟩ := List.getElem?_eq_some_iff.mp hrow
          have P := List.pairwise_iff_getElem.mp hO.2
          rcases Nat.lt_or_gt_of_ne ik with l' | l'
          · have := P _ _ a1 b1 l'; rw [a2, b2] at this; exact this
          · have := P _ _ b1 a1 l'; rw [a2, b2] at this; exact this.symm
      · have e := map_set_same Prod.fst (y := (v, X')) hrow rfl
        have P : ((rowsR zs).map Prod.fst).Pairwise fun p q => Far (Value.ownBlock p) (Value.ownBlock q) := by
          rw [List.pairwise_map]; exact hO.2
        rw [← e, List.pairwise_map] at P
        exact P
    · have hl2 := List.mem_cons_of_mem (rowsR zs) hl'
      refine ⟨fun p hp => hT.own ((h.row l hl2).1 p hp) fun x hx => ?_, (h.row l hl2).2⟩
      simp only [List.mem_singleton] at hx
      subst hx
      exact ((List.pairwise_cons.mp h.cc).1 l hl' _ hmem p hp).symm
end
theorem Sz.set {S : Nat} {zs : List Rc} (h : Sz S zs) (m : Nat) {z : Rc} (hz : z.cells.length = S) : Sz S (zs.set m z) := by
  intro y hy
  rcases List.mem_or_eq_of_mem_set hy with a | rfl
  · exact h y a
  · exact hz
/-- Marks. -/
def markFs : Nat → List Fv → List Fv
  | _, [] => []
  | k, f :: r => (markFr k f.1, f.2) :: markFs (k + 1 + f.1.len) r
def markIs (k : Nat) : List Int → List Int
  | [] => []
  | _ :: r => (k : Int) :: markIs (k + 1) r
def markRc (k : Nat) (z : Rc) : Rc := ⟨markIs k z.is, markFs (k + z.is.length) z.fs⟩
theorem markFs_len (k : Nat) (l : List Fv) : Rc.lens (markFs k l) = Rc.lens l := by
  induction l generalizing k with
  | nil => rfl
  | cons f r ih => simp [markFs, Rc.lens, markFr_len, ih]
theorem markFs_length (k : Nat) (l : List Fv) : (markFs k l).length = l.length := by
  induction l generalizing k with
  | nil => rfl
  | cons f r ih => simp [markFs, ih]
theorem markIs_length (k : Nat) (l : List Int) : (markIs k l).length = l.length := by
  induction l generalizing k with
  | nil => rfl
  | cons f r ih => simp [markIs, ih]
theorem markRc_len (k : Nat) (z : Rc) : (markRc k z).len = z.len := by simp [markRc, Rc.len, markFs_len]
theorem markRc_sh {ni nf k : Nat} {z : Rc} (h : z.sh ni nf) : (markRc k z).sh ni nf := ⟨by simp only [markRc, markIs_length]; exact h.1, by simp only [markRc, markFs_length]; exact h.2⟩
/-- c: how many marks a record takes beside its limbs. -/
def markRs (c : Nat) : Nat → List Rc → List Rc
  | _, [] => []
  | k, z :: r => markRc k z :: markRs c (k + c + z.len) r
theorem markRs_length (c k : Nat) (zs : List Rc) : (markRs c k zs).length = zs.length := by
  induction zs generalizing k with
  | nil => rfl
  | cons z r ih => simp [markRs, ih]
theorem markRs_sh {ni nf c k : Nat} {zs : List Rc} (h : ∀ z ∈ zs, z.sh ni nf) : ∀ z ∈ markRs c k zs, z.sh ni nf := by
  induction zs generalizing k with
  | nil => simp [markRs]
  | cons z r ih =>
    intro y hy
    rcases List.mem_cons.mp hy with rfl | a
    · exact markRc_sh (h z (by simp))
    · exact ih (fun z hz => h z (by simp [hz])) y a
theorem markRs_app (c k : Nat) (a b : List Rc) : markRs c k (a ++ b) = markRs c k a ++ markRs c (k + c * a.length + lensR a) b := by
  induction a generalizing k with
  | nil => simp [markRs, lensR]
  | cons z r ih => simp only [List.cons_append, markRs, ih, lensR, List.length_cons]; rw [show k + c + z.len + c * r.length + lensR r = k + c * (r.length + 1) + (z.len + lensR r) by rw [Nat.mul_succ]; omega]
/-- The first j marked. -/
def markRTo (c k : Nat) (zs : List Rc) (j : Nat) : List Rc := markRs c k (zs.take j) ++ zs.drop j
def markRAt (c k : Nat) (zs : List Rc) (j : Nat) : Nat := k + c * j + lensR (zs.take j)
theorem markRTo_zero (c k : Nat) (zs : List Rc) : markRTo c k zs 0 = zs := by simp [markRTo, markRs]
theorem markRTo_all (c k : Nat) (zs : List Rc) : markRTo c k zs zs.length = markRs c k zs := by simp [markRTo]
theorem markRTo_sh {ni nf c k j : Nat} {zs : List Rc} (h : ∀ z ∈ zs, z.sh ni nf) : ∀ z ∈ markRTo c k zs j, z.sh ni nf := by
  intro z hz
  rcases List.mem_append.mp hz with a | a
  · exact markRs_sh (fun z hz => h z (List.mem_of_mem_take hz)) z a
  · exact h z (List.mem_of_mem_drop a)
theorem markRTo_at {c k : Nat} {zs : List Rc} {j : Nat} {z : Rc} (h : zs[j]? = some z) : (markRTo c k zs j)[j]? = some z := by
  have hj := (List.getElem?_eq_some_iff.mp h).1
  have hl : (markRs c k (zs.take j)).length = j := by rw [markRs_length, List.length_take]; omega
  unfold markRTo
  rw [List.getElem?_append_right (by omega), hl, Nat.sub_self, List.getElem?_drop, Nat.add_zero]; exact h
theorem markRTo_succ {c k : Nat} {zs : List Rc} {j : Nat} {z : Rc} (h : zs[j]? = some z) : (markRTo c k zs j).set j (markRc (markRAt c k zs j) z) = markRTo c k zs (j + 1) := by
  obtain ⟨hj, e⟩ := List.getElem?_eq_some_iff.mp h
  have hl : (markRs c k (zs.take j)).length = j := by rw [markRs_length, List.length_take]; omega
  unfold markRTo
  rw [List.set_append_right _ _ (by omega), hl, Nat.sub_self, List.drop_eq_getElem_cons hj, e, List.set_cons_zero, List.take_succ_eq_append_getElem hj, e, markRs_app]
  have ht : (zs.take j).length = j := by rw [List.length_take]; omega
  simp only [markRs, ht, List.append_assoc, List.cons_append, List.nil_append]
  rfl
theorem markRAt_succ {c k : Nat} {zs : List Rc} {j : Nat} {z : Rc} (h : zs[j]? = some z) : markRAt c k zs (j + 1) = markRAt c k zs j + c + z.len := by
  unfold markRAt; rw [lensR_take_succ h, Nat.mul_succ]; omega
theorem markRAt_le (c k : Nat) (zs : List Rc) (j : Nat) (hj : j ≤ zs.length) : markRAt c k zs j ≤ k + c * zs.length + lensR zs := by
  unfold markRAt; have := lensR_take_le zs j; have := Nat.mul_le_mul_left c hj; omega
theorem markRAt_all (c k : Nat) (zs : List Rc) : markRAt c k zs zs.length = k + c * zs.length + lensR zs := by simp [markRAt]
theorem markRs_at {c k : Nat} {zs : List Rc} {j : Nat} {z : Rc} (h : zs[j]? = some z) : (markRs c k zs)[j]? = some (markRc (markRAt c k zs j) z) := by
  obtain ⟨hj, e⟩ := List.getElem?_eq_some_iff.mp h
  have hl : (markRs c k (zs.take j)).length = j := by rw [markRs_length, List.length_take]; omega
  have ht : (zs.take j).length = j := by rw [List.length_take]; omega
  have hs : zs = zs.take j ++ z :: zs.drop (j + 1) := by rw [← e, ← List.drop_eq_getElem_cons hj, List.take_append_drop]
  have hm : markRs c k zs = markRs c k (zs.take j) ++ markRs c (markRAt c k zs j) (z :: zs.drop (j + 1)) := by
    have := markRs_app c k (zs.take j) (z :: zs.drop (j + 1))
    rw [← hs, ht] at this
    exact this
  rw [hm, List.getElem?_append_right (by omega), hl, Nat.sub_self]
  rfl
end Go.Proofs.YtbikkbamcleinaaDoor
