/- Contracts of the program's helpers over rows of limbs: rowOf, natOrNil, addTimes, subtractTimes. Conditions: none. -/
import Derived.Test.YthijfjjeklmemaaDoorProg
import Derived.Test.YthijfjjeklmemaaDoorHelpI
import Derived.Test.YthijfjjeklmemaaDoorTrim
import Derived.Laws.CopyOwn
namespace Go.Proofs.YthijfjjeklmemaaDoor
open Go.RowKit Nt
set_option linter.unusedVariables false

theorem whole_heap {w : World} {base g : Nat} {e : TypeId} {ys : List Value} (h : Whole w base g e ys) : w.heap[g]? = some (.cells ys.toArray e (0, 0)) := by
  rcases h.2 with ⟨hv, _⟩ | ⟨g', cap, cur, hv, hb, hh, hnc, hcm, hcs, ht⟩
  · simp at hv
  · obtain ⟨rfl, rfl⟩ : g = g' ∧ ys.length = cap := by simpa using hv
    rw [hh]
    have e : cur.toList = ys := by
      rw [← ht, List.take_of_length_le]
      have : cur.toList.length = cur.size := by simp
      omega
    rw [← e]
theorem whole_of {w : World} {base g : Nat} {e : TypeId} {ys : List Value} (hb : base ≤ g) (h : w.heap[g]? = some (.cells ys.toArray e (0, 0))) (hl : ys.length ≤ maxLen) : Whole w base g e ys :=
  ⟨by simp, .inr ⟨g, _, ys.toArray, rfl, hb, h, Nat.le_refl _, hl, by simp, by simp⟩⟩
/-- Y with F laid over it from place o on, k places. -/
def upd (Y : List Nat) (o k : Nat) (F : Nat → Nat) : List Nat := Y.take o ++ ((List.range k).map F ++ Y.drop (o + k))
theorem upd_len (Y : List Nat) (o k : Nat) (F : Nat → Nat) (h : o + k ≤ Y.length) : (upd Y o k F).length = Y.length := by simp [upd]; omega
theorem upd_zero (Y : List Nat) (o : Nat) (F : Nat → Nat) : upd Y o 0 F = Y := by simp [upd]
theorem upd_get? (Y : List Nat) (o k : Nat) (F : Nat → Nat) (h : o + k < Y.length) : (upd Y o k F)[o + k]? = some Y[o + k] := by
  unfold upd
  rw [List.getElem?_append_right (by simp; omega), List.getElem?_append_right (by simp; omega), List.getElem?_drop]
  have e : o + k + (o + k - (Y.take o).length - ((List.range k).map F).length) = o + k := by simp; omega
  rw [e, List.getElem?_eq_getElem h]
theorem upd_set (Y : List Nat) (o k : Nat) (F : Nat → Nat) (h : o + k < Y.length) : (upd Y o k F).set (o + k) (F k) = upd Y o (k + 1) F := by
  unfold upd
  rw [List.set_append_right _ _ (by simp; omega)]
  have e : o + k - (Y.take o).length = k := by simp; omega
  have s := set_step F (Y.drop o) k (by simp; omega)
  rw [List.drop_drop, List.drop_drop] at s
  rw [e, s]
theorem digs_upd {Y : List Nat} {o k : Nat} {F : Nat → Nat} (hY : Digs Y) (hF : Digs ((List.range k).map F)) : Digs (upd Y o k F) := (hY.take o).app (hF.app (hY.drop _))
theorem win_getD (Y : List Nat) (o n k : Nat) (hk : k < n) (h : o + n ≤ Y.length) : ((Y.drop o).take n).getD k 0 = Y[o + k]'(by omega) := by
  rw [List.getD_eq_getElem?_getD, List.getElem?_take_of_lt hk, List.getElem?_drop, List.getElem?_eq_getElem (by omega)]
  rfl
theorem add_off (g o k : Nat) : (⟨g, o, none⟩ : Addr).add k = ⟨g, o + k, none⟩ := by unfold Addr.add; split <;> simp_all
/-- What 'copy' does to a block of its own. -/
theorem run_copy_any {P : Program} {w : World} (dT sT ty elem : TypeId) (hu : P.underlying dT = some (.slice elem)) (hsz : (P.info? elem).map (·.size) = some 1)
    (dp sp : Option Addr) (dLen dCap sLen sCap : Nat) (g off : Nat) (cur : List Value) (t : TypeId) (hg : w.heap[g]? = some (.cells cur.toArray t (0, 0))) (cs : List Value) (hn : cs.length = Nat.min sLen dLen)
    (hpos : 0 < cs.length → dp = some ⟨g, off, none⟩ ∧ ∃ ad, sp = some ad ∧ ∀ j v, cs[j]? = some v → w.cell? (ad.add j) = some v)
    (hfit : off + cs.length ≤ cur.length) (h1 : ∀ v ∈ cs, v.oneCell' = true) (B : Nat) (w0 : World) (hb : Below B w0 w) (hBg : B ≤ g) :
    ∃ w', (Builtin.copy_ #[dT, sT] ty #[.slice dp dLen dCap, .slice sp sLen sCap]).run P w = .ok (goInt cs.length) w' ∧ w'.heap[g]? = some (.cells (splice cur off cs).toArray t (0, 0)) ∧ Below B w0 w' := by
  by_cases h0 : cs.length = 0
  · obtain rfl : cs = [] := List.eq_nil_of_length_eq_zero h0
    exact ⟨w, run_copy_none (P := P) w dT sT ty elem dp sp dLen dCap sLen sCap hu hsz (by simpa using hn.symm), by simpa [splice] using hg, hb⟩
  · obtain ⟨rfl, ad, rfl, hsrc⟩ := hpos (by omega)
    exact ⟨_, run_copy_row (P := P) w dT sT ty elem g off dLen dCap ad sLen sCap cur.toArray t cs hu hsz hg hn hsrc (by simpa using hfit) h1, by simpa [splice] using setRow_heap w g _ _ t _ hg, below_setRow hb hBg _⟩
theorem VRow.off {w : World} {B : Option Addr} {m g : Nat} {xs : List Value} (h : VRow w B m xs) (hg : w.heap.size ≤ g) : 0 < m → ∀ a : Addr, B = some a → a.block ≠ g := by
  intro hm a ha
  obtain ⟨g', o, rfl, hlt, _⟩ := h.2 hm
  obtain rfl : (⟨g', o, none⟩ : Addr) = a := by simpa using ha
  simp; omega
theorem nats_replicate (n : Nat) : nats (List.replicate n 0) = List.replicate n (.int .i64 0) := by simp [nats, ints]
theorem nats_oneCell (ds : List Nat) : ∀ v ∈ nats ds, v.oneCell' = true := by
  intro v hv
  simp [nats, ints] at hv
  obtain ⟨a, _, rfl⟩ := hv
  rfl

/-- The limbs of a number that has at most 60 of them, else none. -/
def capd (n : Nat) : List Nat := if (dig n).length ≤ 60 then dig n else []
theorem capd_len (n : Nat) : (capd n).length ≤ 60 := by unfold capd; split <;> simp_all
theorem capd_of {n : Nat} (h : n < 1000000000 ^ 60) : capd n = dig n := by rw [capd, if_pos (dig_len h)]
theorem OwnV.of_whole {w : World} {base g : Nat} {e : TypeId} {ys : List Value} (h : Whole w base g e ys) : OwnV w base e (.slice (some ⟨g, 0, none⟩) ys.length ys.length) ys :=
  .inr ⟨g, _, ys, rfl, Nat.le_refl _, Nat.le_refl _, h, List.take_length⟩
theorem dig_le_len {ds : List Nat} (h : Digs ds) : (dig (val ds)).length ≤ ds.length := dig_len (val_lt h)
/-- The limbs that are left of a row are its first ones. -/
theorem take_dig {ds : List Nat} (h : Digs ds) : ds.take (dig (val ds)).length = dig (val ds) := by
  exact canon_pre h
theorem Whole.set2 {w : World} {base g : Nat} {e : TypeId} {ys : List Value} (h : Whole w base g e ys) (j : Nat) (u v : Value) : Whole ((w.setCell ⟨g, j, none⟩ u).setCell ⟨g, j, none⟩ v) base g e (ys.set j v) := by
  have := (h.set j u).set j v
  rwa [List.set_set] at this
theorem Whole.set2Grown {w : World} {base g : Nat} {e : TypeId} {ys : List Value} (h : Whole w base g e ys) (j : Nat) (u v : Value) : w.grownBy ((w.setCell ⟨g, j, none⟩ u).setCell ⟨g, j, none⟩ v) (some g) :=
  grown_grown (h.setGrown j u) ((h.set j u).setGrown j v)
end Go.Proofs.YthijfjjeklmemaaDoor
