/- Rows that a function hands back in memory of its own, also where the capacity was cut: words and how they are kept. Conditions: none. -/
import Derived.Test.YtgmgdbnfmlmicaaMem
namespace Go.Proofs.Ytgmgdbnfmlmicaa
open Go.RowKit
set_option linter.unusedVariables false

/-- The block g holds the cells ys, was made at or behind base, and may be written to. -/
def Whole (w : World) (base g : Nat) (e : TypeId) (ys : List Value) : Prop := w.ownsRow base e 1 (.slice (some ⟨g, 0, none⟩) ys.length ys.length) ys.length ys
/-- The slice v reads as xs, in a block made at or behind base. -/
def OwnV (w : World) (base : Nat) (e : TypeId) (v : Value) (xs : List Value) : Prop :=
  (v = .slice none 0 0 ∧ xs = []) ∨ ∃ g c ys, v = .slice (some ⟨g, 0, none⟩) xs.length c ∧ xs.length ≤ c ∧ c ≤ ys.length ∧ Whole w base g e ys ∧ ys.take xs.length = xs
/-- A slice of integers. -/
def ints (zs : List Int) : List Value := zs.map (.int .i64)
/-- A slice of limbs. -/
def nats (ds : List Nat) : List Value := ints (ds.map fun d : Nat => (d : Int))
/-- What a function leaves that returns the cells xs in new memory: nothing old has turned. -/
def OwnR (e : TypeId) (xs : List Value) (w : World) (en : Ending) (w' : World) : Prop :=
  ∃ v, en = .returned v ∧ OwnV w' w.heap.size e v xs ∧ Below w.heap.size w w'

section
variable {w w' : World} {base : Nat} {e : TypeId} {v : Value} {xs ys : List Value} {g : Nat}
theorem nats_len (ds : List Nat) : (nats ds).length = ds.length := by simp [nats, ints]
theorem ints_len (ds : List Int) : (ints ds).length = ds.length := by simp [ints]
theorem nats_get (ds : List Nat) (k : Nat) (h : k < (nats ds).length) : (nats ds)[k] = .int .i64 (ds[k]'(by rw [nats_len] at h; exact h) : Nat) := by simp [nats, ints]
theorem ints_get (ds : List Int) (k : Nat) (h : k < (ints ds).length) : (ints ds)[k] = .int .i64 (ds[k]'(by rw [ints_len] at h; exact h)) := by simp [ints]
theorem nats_take (ds : List Nat) (k : Nat) : (nats ds).take k = nats (ds.take k) := by simp [nats, ints]
theorem nats_drop (ds : List Nat) (k : Nat) : (nats ds).drop k = nats (ds.drop k) := by simp [nats, ints]
theorem nats_app (a b : List Nat) : nats (a ++ b) = nats a ++ nats b := by simp [nats, ints]
theorem nats_one (a : Nat) : nats [a] = [.int .i64 (a : Int)] := rfl
theorem nats_set (ds : List Nat) (k d : Nat) : (nats ds).set k (.int .i64 (d : Int)) = nats (ds.set k d) := by simp [nats, ints, List.map_set]
theorem nats_inj {a b : List Nat} (h : nats a = nats b) : a = b := by
  apply List.ext_getElem
  · have := congrArg List.length h; simpa [nats_len] using this
  · intro i h1 h2
    have e := congrArg (fun l => l[i]?) h
    simp [nats, ints, h1, h2] at e
    omega
theorem ints_nats (ds : List Nat) : nats ds = ints (ds.map fun d : Nat => (d : Int)) := rfl

theorem Whole.len_le (h : Whole w base g e ys) : ys.length ≤ maxLen := (own_cap h).2
theorem Whole.lt (h : Whole w base g e ys) : base ≤ g ∧ g < w.heap.size := World.ownsRow.lt h g rfl
theorem Whole.cell (h : Whole w base g e ys) (j : Nat) (hj : j < ys.length) : w.cell? ⟨g, j, none⟩ = some ys[j] := by
  rw [World.ownsRow.cellAt h j (by omega)]; exact List.getElem?_eq_getElem _
theorem Whole.frozen (h : Whole w base g e ys) (j : Nat) : w.frozen? ⟨g, j, none⟩ = false := World.ownsRow.frozenAt h j
theorem Whole.set (h : Whole w base g e ys) (j : Nat) (u : Value) : Whole (w.setCell ⟨g, j, none⟩ u) base g e (ys.set j u) := by
  have := (World.ownsRow.stored h j u).1
  unfold Whole
  rwa [List.length_set]
theorem Whole.setGrown (h : Whole w base g e ys) (j : Nat) (u : Value) : w.grownBy (w.setCell ⟨g, j, none⟩ u) (some g) := (World.ownsRow.stored h j u).2
theorem Whole.kept {row : Option Nat} (h : Whole w base g e ys) (hg : w.grownBy w' row) (hne : some g ≠ row) : Whole w' base g e ys := World.ownsRow.kept h hg (.inr hne)
theorem Whole.below (h : Whole w base g e ys) (hb : Below w.heap.size w w') : Whole w' base g e ys := own_below h hb
theorem Whole.drewN (h : Whole w base g e ys) (k : Nat) : Whole (w.drewN k) base g e ys := h
theorem Whole.based {base' : Nat} (h : Whole w base g e ys) (hb : base' ≤ base) : Whole w base' g e ys := own_base h hb
/-- A part of a whole block, read as a slice. -/
theorem Whole.row (h : Whole w base g e ys) (o n : Nat) (hn : o + n ≤ ys.length) : VRow w (some ⟨g, o, none⟩) n ((ys.drop o).take n) := by
  refine ⟨by simp; omega, fun _ => ⟨g, o, rfl, h.lt.2, fun k hk => ?_⟩⟩
  rw [h.cell (o + k) (by omega), List.getElem?_take_of_lt hk, List.getElem?_drop, List.getElem?_eq_getElem]

theorem OwnV.nil (w : World) (base : Nat) (e : TypeId) : OwnV w base e (.slice none 0 0) [] := .inl ⟨rfl, rfl⟩
theorem whole_of_own {c n : Nat} (h : w.ownsRow base e 1 (.slice (some ⟨g, 0, none⟩) n c) n xs) : ∃ ys, Whole w base g e ys ∧ ys.take n = xs ∧ ys.length = c ∧ n ≤ c := by
  rcases h.2 with ⟨hv, _⟩ | ⟨g', cap, cur, hv, hb, hh, hnc, hcm, hcs, ht⟩
  · simp at hv
  · obtain ⟨rfl, rfl⟩ : g = g' ∧ c = cap := by simpa using hv
    have hl : cur.toList.length = c := by simpa using hcs
    refine ⟨cur.toList, ⟨by simp, .inr ⟨g, _, cur, rfl, hb, hh, Nat.le_refl _, by omega, by omega, by rw [Nat.mul_one]; exact List.take_length⟩⟩, by simpa using ht, hl, hnc⟩
theorem OwnV.of_own {n : Nat} (h : w.ownsRow base e 1 v n xs) : OwnV w base e v xs := by
  have hl : xs.length = n := by simpa using h.1
  subst hl
  rcases h.2 with ⟨hv, h0⟩ | ⟨g, cap, cur, hv, hb, hh, hnc, hcm, hcs, ht⟩
  · exact .inl ⟨hv, List.eq_nil_of_length_eq_zero h0⟩
  · subst hv
    obtain ⟨ys, h1, h2, h3, h4⟩ := whole_of_own h
    exact .inr ⟨g, cap, ys, rfl, hnc, by omega, h1, h2⟩
theorem OwnV.shape (h : OwnV w base e v xs) : ∃ A c, v = .slice A xs.length c := by
  rcases h with ⟨rfl, rfl⟩ | ⟨g, c, ys, rfl, _⟩
  · exact ⟨_, _, rfl⟩
  · exact ⟨_, _, rfl⟩
theorem OwnV.len {A : Option Addr} {n c : Nat} (h : OwnV w base e (.slice A n c) xs) : xs.length = n := by
  obtain ⟨A', c', hv⟩ := h.shape
  simp at hv; omega
theorem OwnV.cap {A : Option Addr} {n c : Nat} (h : OwnV w base e (.slice A n c) xs) : n ≤ c ∧ c ≤ maxLen := by
  rcases h with ⟨hv, _⟩ | ⟨g, c', ys, hv, h1, h2, h3, _⟩
  · obtain ⟨rfl, rfl, rfl⟩ : A = none ∧ n = 0 ∧ c = 0 := by simpa using hv
    exact ⟨Nat.le_refl _, by unfold maxLen; omega⟩
  · obtain ⟨rfl, rfl, rfl⟩ : A = some ⟨g, 0, none⟩ ∧ n = xs.length ∧ c = c' := by simpa using hv
    exact ⟨h1, Nat.le_trans h2 h3.len_le⟩
theorem OwnV.row {A : Option Addr} {n c : Nat} (h : OwnV w base e (.slice A n c) xs) : VRow w A n xs := by
  rcases h with ⟨hv, rfl⟩ | ⟨g, c', ys, hv, h1, h2, h3, h4⟩
  · obtain ⟨rfl, rfl, rfl⟩ : A = none ∧ n = 0 ∧ c = 0 := by simpa using hv
    exact VRow.empty _ _
  · obtain ⟨rfl, rfl, rfl⟩ : A = some ⟨g, 0, none⟩ ∧ n = xs.length ∧ c = c' := by simpa using hv
    have := h3.row 0 xs.length (by omega)
    simpa [h4] using this
theorem OwnV.kept {row : Option Nat} (h : OwnV w base e v xs) (hg : w.grownBy w' row) (hne : v.ownBlock = none ∨ v.ownBlock ≠ row) : OwnV w' base e v xs := by
  rcases h with h | ⟨g, c, ys, rfl, h1, h2, h3, h4⟩
  · exact .inl h
  · exact .inr ⟨g, c, ys, rfl, h1, h2, h3.kept hg (by simpa [Value.ownBlock] using hne), h4⟩
theorem OwnV.below (h : OwnV w base e v xs) (hb : Below w.heap.size w w') : OwnV w' base e v xs := by
  rcases h with h | ⟨g, c, ys, rfl, h1, h2, h3, h4⟩
  · exact .inl h
  · exact .inr ⟨g, c, ys, rfl, h1, h2, h3.below hb, h4⟩
theorem OwnV.drewN (h : OwnV w base e v xs) (k : Nat) : OwnV (w.drewN k) base e v xs := h
theorem OwnV.based {base' : Nat} (h : OwnV w base e v xs) (hb : base' ≤ base) : OwnV w base' e v xs := by
  rcases h with h | ⟨g, c, ys, rfl, h1, h2, h3, h4⟩
  · exact .inl h
  · exact .inr ⟨g, c, ys, rfl, h1, h2, h3.based hb, h4⟩
theorem OwnV.lt (h : OwnV w base e v xs) : ∀ k, v.ownBlock = some k → base ≤ k ∧ k < w.heap.size := by
  rcases h with ⟨rfl, _⟩ | ⟨g, c, ys, rfl, h1, h2, h3, h4⟩
  · intro k hk; simp [Value.ownBlock] at hk
  · intro k hk
    obtain rfl : g = k := by simpa [Value.ownBlock] using hk
    exact h3.lt
/-- Two rows, the second made when the first was there. -/
theorem OwnV.apart {w2 : World} {b2 : Nat} {e2 : TypeId} {v2 : Value} {xs2 : List Value} (h1 : OwnV w base e v xs) (h2 : OwnV w2 b2 e2 v2 xs2) (hb : w.heap.size ≤ b2) : v.ownBlock = none ∨ v.ownBlock ≠ v2.ownBlock := by
  cases h : v.ownBlock with
  | none => exact .inl rfl
  | some k =>
    refine .inr fun e => ?_
    have a := (h1.lt k h).2
    have b := (h2.lt k e.symm).1
    omega
theorem OwnV.apart' {w2 : World} {b2 : Nat} {e2 : TypeId} {v2 : Value} {xs2 : List Value} (h1 : OwnV w base e v xs) (h2 : OwnV w2 b2 e2 v2 xs2) (hb : w2.heap.size ≤ base) : v.ownBlock = none ∨ v.ownBlock ≠ v2.ownBlock := by
  cases h : v.ownBlock with
  | none => exact .inl rfl
  | some k =>
    refine .inr fun e => ?_
    have a := (h1.lt k h).1
    have b := (h2.lt k e.symm).2
    omega
/-- One element of such a row: it can be read, and written. -/
theorem OwnV.spot {A : Option Addr} {n c j : Nat} (h : OwnV w base e (.slice A n c) xs) (hj : j < n) :
    ∃ g, A = some ⟨g, 0, none⟩ ∧ g < w.heap.size ∧ base ≤ g ∧ w.cell? ⟨g, j, none⟩ = some (xs[j]'(by have := h.len; omega)) ∧ w.frozen? ⟨g, j, none⟩ = false ∧
      ∀ u, OwnV (w.setCell ⟨g, j, none⟩ u) base e (.slice A n c) (xs.set j u) ∧ w.grownBy (w.setCell ⟨g, j, none⟩ u) (some g) := by
  rcases h with ⟨hv, _⟩ | ⟨g, c', ys, hv, h1, h2, h3, h4⟩
  · simp at hv; omega
  · obtain ⟨rfl, rfl, rfl⟩ : A = some ⟨g, 0, none⟩ ∧ n = xs.length ∧ c = c' := by simpa using hv
    refine ⟨g, rfl, h3.lt.2, h3.lt.1, ?_, h3.frozen j, fun u => ⟨.inr ⟨g, c, ys.set j u, by simp, by simpa using h1, by simpa using h2, h3.set j u, ?_⟩, h3.setGrown j u⟩⟩
    · rw [h3.cell j (by omega)]
      congr 1
      have : (ys.take xs.length)[j]'(by simp; omega) = xs[j] := by simp [h4]
      rw [← this, List.getElem_take]
    · rw [List.length_set, List.take_set, h4]
theorem OwnR.mono_base {en : Ending} (h : OwnR e xs w en w') : Below w.heap.size w w' := h.choose_spec.2.2
/-- A row cut to its first m elements, the capacity too or not. -/
theorem OwnV.cut {A : Option Addr} {n c m c2 : Nat} (h : OwnV w base e (.slice A n c) xs) (hm : m ≤ n) (h1 : m ≤ c2) (h2 : c2 ≤ c) : OwnV w base e (.slice A m c2) (xs.take m) := by
  rcases h with ⟨hv, rfl⟩ | ⟨g, c', ys, hv, a1, a2, a3, a4⟩
  · obtain ⟨rfl, rfl, rfl⟩ : A = none ∧ n = 0 ∧ c = 0 := by simpa using hv
    obtain rfl : m = 0 := by omega
    obtain rfl : c2 = 0 := by omega
    exact .inl ⟨rfl, by simp⟩
  · obtain ⟨rfl, rfl, rfl⟩ : A = some ⟨g, 0, none⟩ ∧ n = xs.length ∧ c = c' := by simpa using hv
    have hl : (xs.take m).length = m := by simp; omega
    refine .inr ⟨g, c2, ys, by rw [hl], by omega, by omega, a3, ?_⟩
    rw [hl, ← a4, List.take_take]
    congr 1
    omega
end
end Go.Proofs.Ytgmgdbnfmlmicaa
