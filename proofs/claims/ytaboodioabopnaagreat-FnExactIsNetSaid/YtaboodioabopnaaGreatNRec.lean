/- Records: integers, then fractions; slices of them: how they read, how they are kept. Conditions: none. -/
import Derived.Test.YtaboodioabopnaaGreatNMarkMath
namespace Go.Proofs.YtaboodioabopnaaGreat
open Go.RowKit Nt Fr
set_option linter.unusedVariables false
theorem St.over {w0 w w' : World} {bs bs2 : List (Nat × List Value)} {cs cs2 : List Chunk} (h : St w0 w bs cs) (h2 : St w w' bs2 cs2) : St w0 w' (bs2 ++ bs) (cs2 ++ cs) := by
 have h' := h.call h2.below
 refine ⟨h'.below, fun p hp => ?_, fun l hl => ?_, List.pairwise_append.mpr ⟨h2.bb, h'.bb, fun p hp q hq => ?_⟩, List.pairwise_append.mpr ⟨h2.cc, h'.cc, fun l hl m hm => ?_⟩, fun p hp l hl q hq => ?_⟩
 · rcases List.mem_append.mp hp with a | a
   · exact ⟨(h2.box p a).1, Nat.le_trans h.size (h2.box p a).2⟩
   · exact h'.box p a
 · rcases List.mem_append.mp hl with a | a
   · exact (h2.row l a).based h.size
   · exact h'.row l a
 · have a := (h2.box p hp).2
   have b := (h.box q hq).1.lt
   omega
 · exact (h.row m hm).newer (h2.row l hl) (Nat.le_refl _)
 · rcases List.mem_append.mp hp with a | a
   · rcases List.mem_append.mp hl with c | c
     · exact h2.br p a l c q hq
     · intro k e1 e2
       have x := (h2.box p a).2
       have y := (((h.row l c).1 q hq).lt k e2).2
       obtain rfl : p.1 = k := by simpa using e1
       omega
   · rcases List.mem_append.mp hl with c | c
     · intro k e1 e2
       have x := (h.box p a).1.lt
       have y := (((h2.row l c).1 q hq).lt k e2).1
       obtain rfl : p.1 = k := by simpa using e1
       omega
     · exact h'.br p a l c q hq
abbrev Fv := Fr × Value × Value
structure Rc where
 is : List Int
 fs : List Fv
namespace Rc
def frc (f : Fv) : List Value := [.bool f.1.s, f.2.1, f.2.2]
def frr (f : Fv) : Chunk := [(f.2.1, ints f.1.xs), (f.2.2, ints f.1.ys)]
def lens : List Fv → Nat
 | [] => 0
 | f :: r => f.1.len + lens r
def cells (z : Rc) : List Value := z.is.map (Value.int .i64) ++ z.fs.flatMap frc
def rows (z : Rc) : Chunk := z.fs.flatMap frr
def len (z : Rc) : Nat := lens z.fs
def rd (w : World) (z : Rc) : Prop := ∀ f ∈ z.fs, FrI w f.1 f.2.1 f.2.2
def ra (w : World) (z : Rc) : Prop := ∀ f ∈ z.fs, FrA w f.1 f.2.1 f.2.2
def dat (z : Rc) : List Int × List Fr := (z.is, z.fs.map (·.1))
def sh (ni nf : Nat) (z : Rc) : Prop := z.is.length = ni ∧ z.fs.length = nf
theorem rd.below {w w' : World} {z : Rc} (h : z.rd w) (hb : Below w.heap.size w w') : z.rd w' := fun f hf => (h f hf).below hb
theorem ra.below {w w' : World} {z : Rc} (h : z.ra w) (hb : Below w.heap.size w w') : z.ra w' := fun f hf => (h f hf).below hb
theorem ra.rd {w : World} {z : Rc} (h : z.ra w) : z.rd w := fun f hf => (h f hf).i
theorem frcs_len (l : List Fv) : (l.flatMap frc).length = 3 * l.length := by
 induction l with
 | nil => rfl
 | cons f r ih => simp [frc] at ih ⊢; omega
theorem cells_len {ni nf : Nat} {z : Rc} (h : z.sh ni nf) : z.cells.length = ni + 3 * nf := by
 simp only [cells, List.length_append, List.length_map, frcs_len, h.1, h.2]
theorem sh13 {z : Rc} (h : z.sh 1 3) : ∃ A P p0 p1 Q q0 q1 R r0 r1, z = ⟨[A], [(P, p0, p1), (Q, q0, q1), (R, r0, r1)]⟩ := by
 obtain ⟨i, f⟩ := z
 obtain ⟨h1, h2⟩ := h
 simp only at h1 h2
 match i, h1, f, h2 with
 | [A], _, [(P, p0, p1), (Q, q0, q1), (R, r0, r1)], _ => exact ⟨A, P, p0, p1, Q, q0, q1, R, r0, r1, rfl⟩
end Rc
structure RRow (S ni nf : Nat) (w : World) (A : Option Addr) (n : Nat) (zs : List Rc) : Prop where
 len : zs.length = n
 cell : 0 < n → ∃ g o, A = some ⟨g, o, none⟩ ∧ g < w.heap.size ∧ ∀ k (hk : k < zs.length) (j : Nat) (v : Value), (zs[k].cells)[j]? = some v → w.cell? ⟨g, o + k * S + j, none⟩ = some v
 rd : ∀ z ∈ zs, z.rd w
 sh : ∀ z ∈ zs, z.sh ni nf
section
variable {S ni nf : Nat} {w w' : World} {A : Option Addr} {n : Nat} {zs : List Rc}
theorem RRow.below (h : RRow S ni nf w A n zs) (hb : Below w.heap.size w w') : RRow S ni nf w' A n zs := by
 refine ⟨h.len, fun hn => ?_, fun z hz => (h.rd z hz).below hb, h.sh⟩
 obtain ⟨g, o, rfl, hg, hc⟩ := h.cell hn
 exact ⟨g, o, rfl, Nat.lt_of_lt_of_le hg hb.size, fun k hk j v hj => (hb.cell (p := ⟨g, o + k * S + j, none⟩) hg).trans (hc k hk j v hj)⟩
theorem RRow.at_ (h : RRow S ni nf w A n zs) {k : Nat} (hk : k < n) : ∃ g o z, A = some ⟨g, o, none⟩ ∧ g < w.heap.size ∧ zs[k]? = some z ∧ z.rd w ∧ z.sh ni nf ∧ ∀ (j : Nat) (v : Value), (z.cells)[j]? = some v → w.cell? ⟨g, o + k * S + j, none⟩ = some v := by
 obtain ⟨g, o, e, hg, hc⟩ := h.cell (by omega)
 have hk' : k < zs.length := by rw [h.len]; exact hk
 exact ⟨g, o, zs[k], e, hg, List.getElem?_eq_getElem hk', h.rd _ (List.getElem_mem hk'), h.sh _ (List.getElem_mem hk'), hc k hk'⟩
theorem RRow.nil : RRow S ni nf w none 0 [] := ⟨rfl, fun h => absurd h (Nat.lt_irrefl 0), by simp, by simp⟩
end
structure RArg (S ni nf : Nat) (w : World) (A : Option Addr) (n : Nat) (zs : List Rc) : Prop where
 row : RRow S ni nf w A n zs
 arg : ∀ z ∈ zs, z.ra w
theorem RArg.below {S ni nf : Nat} {w w' : World} {A : Option Addr} {n : Nat} {zs : List Rc} (h : RArg S ni nf w A n zs) (hb : Below w.heap.size w w') : RArg S ni nf w' A n zs := ⟨h.row.below hb, fun z hz => (h.arg z hz).below hb⟩
def dats (zs : List Rc) : List (List Int × List Fr) := zs.map Rc.dat
theorem dats_len (zs : List Rc) : (dats zs).length = zs.length := by simp [dats]
theorem dats_app' (a b : List Rc) : dats (a ++ b) = dats a ++ dats b := by simp [dats]
theorem dats_at {ys zs : List Rc} (h : dats ys = dats zs) {i : Nat} {y z : Rc} (hy : ys[i]? = some y) (hz : zs[i]? = some z) : y.dat = z.dat := by
 have h1 : (dats ys)[i]? = some y.dat := by simp [dats, hy]
 have h2 : (dats zs)[i]? = some z.dat := by simp [dats, hz]
 rw [h, h2] at h1
 exact (Option.some.inj h1).symm
def lensR : List Rc → Nat
 | [] => 0
 | z :: zs => z.len + lensR zs
theorem lensR_app (a b : List Rc) : lensR (a ++ b) = lensR a + lensR b := by
 induction a with
 | nil => simp [lensR]
 | cons z r ih => simp [lensR, ih]; omega
theorem lensR_take_succ {zs : List Rc} {k : Nat} {z : Rc} (h : zs[k]? = some z) : lensR (zs.take (k + 1)) = lensR (zs.take k) + z.len := by
 obtain ⟨hk, e⟩ := List.getElem?_eq_some_iff.mp h
 rw [List.take_succ_eq_append_getElem hk, lensR_app, e]; simp [lensR]
theorem lensR_take_le (zs : List Rc) (k : Nat) : lensR (zs.take k) ≤ lensR zs := by
 have := lensR_app (zs.take k) (zs.drop k)
 rw [List.take_append_drop] at this; omega
theorem lenR_le {zs : List Rc} {k : Nat} {z : Rc} (h : zs[k]? = some z) : z.len ≤ lensR zs := by
 have h1 := lensR_take_succ h
 have h2 := lensR_take_le zs (k + 1)
 omega
def cellsR (ys : List Rc) : List Value := ys.flatMap Rc.cells
def rowsR (ys : List Rc) : Chunk := ys.flatMap Rc.rows
theorem cellsR_cons (x : Rc) (r : List Rc) : cellsR (x :: r) = x.cells ++ cellsR r := by simp [cellsR]
def Sz (S : Nat) (ys : List Rc) : Prop := ∀ y ∈ ys, y.cells.length = S
theorem Sz.of {ni nf : Nat} {ys : List Rc} (h : ∀ y ∈ ys, y.sh ni nf) {S : Nat} (e : ni + 3 * nf = S) : Sz S ys := fun y hy => by rw [Rc.cells_len (h y hy), e]
theorem cellsR_len {S : Nat} {ys : List Rc} (h : Sz S ys) : (cellsR ys).length = ys.length * S := by
 induction ys with
 | nil => simp [cellsR]
 | cons y r ih => rw [cellsR_cons, List.length_append, ih (fun x hx => h x (by simp [hx])), h y (by simp), List.length_cons, Nat.succ_mul]; omega
theorem cellsR_at {S : Nat} {ys : List Rc} (hS : Sz S ys) {k : Nat} {y : Rc} (h : ys[k]? = some y) (j : Nat) {v : Value} (hj : y.cells[j]? = some v) : (cellsR ys)[k * S + j]? = some v := by
 induction ys generalizing k with
 | nil => simp at h
 | cons x r ih =>
   have hl : x.cells.length = S := hS x (by simp)
   have hjS : j < S := by have h1 := (List.getElem?_eq_some_iff.mp hj).1; rw [hS y (List.mem_of_getElem? h)] at h1; exact h1
   cases k with
   | zero =>
     simp at h; subst h
     rw [cellsR_cons, Nat.zero_mul, Nat.zero_add, List.getElem?_append_left (by omega)]; exact hj
   | succ k =>
     simp at h
     rw [cellsR_cons, List.getElem?_append_right (by rw [hl, Nat.succ_mul]; omega), hl, show (k + 1) * S + j - S = k * S + j by rw [Nat.succ_mul]; omega]
     exact ih (fun x hx => hS x (by simp [hx])) h
theorem rowsR_ra {w : World} {base : Nat} {ys : List Rc} (h : Owns w base (rowsR ys)) : ∀ y ∈ ys, y.ra w := by
 intro y hy f hf
 have hr : Owns w base (Rc.frr f) := by
   obtain ⟨a, b, rfl⟩ := List.append_of_mem hy
   obtain ⟨i, fs⟩ := y
   obtain ⟨c, d, rfl⟩ := List.append_of_mem (show f ∈ fs from hf)
   refine h.part (rowsR a ++ c.flatMap Rc.frr) (Rc.frr f) (d.flatMap Rc.frr ++ rowsR b) ?_
   simp [rowsR, Rc.rows]
 exact hr.frAt 0 rfl rfl
section
variable {S M : Nat} {w0 w w' : World} {bs : List (Nat × List Value)} {cs : List Chunk} {b m t : Nat} {zs : List Rc} {z z' : Rc}
end
theorem Sz.set {S : Nat} {zs : List Rc} (h : Sz S zs) (m : Nat) {z : Rc} (hz : z.cells.length = S) : Sz S (zs.set m z) := by
 intro y hy
 rcases List.mem_or_eq_of_mem_set hy with a | rfl
 · exact h y a
 · exact hz
end Go.Proofs.YtaboodioabopnaaGreat
