/- Conditionals: when they are valid; IsValidConditional of the program. Conditions: none. -/
import Derived.Test.YtpdggdakkdenoaaCond
import Derived.Test.YtpdggdakkdenoaaLkCmp
namespace Go.Proofs.Ytpdggdakkdenoaa
open Go.RowKit Nt Fr
set_option linter.unusedVariables false

abbrev Da := List Int × List Fr
def paNode (d : Da) : Int := d.1.headD 0
def paShare (d : Da) : Fr := d.2.headD Fr.zero
def paX (d : Da) : Fr := (d.2.drop 1).headD Fr.zero
def paY (d : Da) : Fr := (d.2.drop 2).headD Fr.zero
/-- May it be a parent of N? -/
def paOk (N : Int) (d : Da) : Bool := decide (0 ≤ paNode d ∧ paNode d < 10) && (!(decide (paNode d = N)) && (decide (0 < (paShare d).sgn) && ((paX d).ok && (paY d).ok)))
def paLess (ds : List Da) (i : Nat) : Bool := match ds[i]?, ds[i + 1]? with | some y, some z => decide (paNode y < paNode z) | _, _ => true
/-- Are the parents in ascending order? -/
def paAsc (ds : List Da) : Bool := (List.range ds.length).all (paLess ds)
def ascPa (ds : List Da) (k : Nat) : Prop := ∀ (i : Nat) (y z : Da), i + 1 < k → ds[i]? = some y → ds[i + 1]? = some z → paNode y < paNode z
/-- The sum of the shares. -/
def paSum (ds : List Da) : Fr := ds.foldl (fun s d => s.add (paShare d)) (Fr.of 0)
/-- Is it a valid conditional? -/
def okC (N : Int) (T : Fr) (ds : List Da) : Bool := decide (1 ≤ N ∧ N ≤ 9) && (decide (0 < T.sgn) && (paAsc ds && (ds.all (paOk N) && (decide (0 < ds.length) && (paSum ds).same (Fr.of 1)))))
theorem paAsc_iff {ds : List Da} : paAsc ds = true ↔ ascPa ds ds.length := by
  unfold paAsc
  rw [List.all_eq_true]
  constructor
  · intro h i y z hi hy hz
    have := h i (List.mem_range.mpr (by omega))
    unfold paLess at this
    rw [hy, hz] at this
    simpa using this
  · intro h i hi
    unfold paLess
    cases hy : ds[i]? with
    | none => rfl
    | some y =>
      cases hz : ds[i + 1]? with
      | none => rfl
      | some z => simpa using h i y z (List.getElem?_eq_some_iff.mp hz).1 hy hz
theorem ascPa_step {ds : List Da} {k : Nat} {y z : Da} (h : ascPa ds (k + 1)) (h1 : ds[k]? = some y) (h2 : ds[k + 1]? = some z) (hl : paNode y < paNode z) : ascPa ds (k + 2) := by
  intro i a b hi ha hb
  by_cases e : i = k
  · subst e
    obtain rfl := Option.some.inj (h1.symm.trans ha)
    obtain rfl := Option.some.inj (h2.symm.trans hb)
    exact hl
  · exact h i a b (by omega) ha hb
theorem ascPa_le {ds : List Da} {k : Nat} (h : k ≤ 1) : ascPa ds k := fun i y z hi => by omega
theorem paAsc_bad {ds : List Da} {k : Nat} {y z : Da} (h1 : ds[k]? = some y) (h2 : ds[k + 1]? = some z) (hl : ¬ paNode y < paNode z) : paAsc ds = false := by
  rw [← Bool.not_eq_true, paAsc_iff]
  exact fun h => hl (h k y z (List.getElem?_eq_some_iff.mp h2).1 h1 h2)
def okPa (N : Int) (ds : List Da) (k : Nat) : Prop := ∀ (i : Nat) (z : Da), i < k → ds[i]? = some z → paOk N z = true
theorem okPa_iff {N : Int} {ds : List Da} : ds.all (paOk N) = true ↔ okPa N ds ds.length := by
  rw [List.all_eq_true]
  constructor
  · intro h i z hi hz; exact h z (List.mem_of_getElem? hz)
  · intro h z hz
    obtain ⟨i, hi⟩ := List.mem_iff_getElem?.mp hz
    exact h i z (List.getElem?_eq_some_iff.mp hi).1 hi
theorem okPa_step {N : Int} {ds : List Da} {k : Nat} {z : Da} (h : okPa N ds k) (h1 : ds[k]? = some z) (hl : paOk N z = true) : okPa N ds (k + 1) := by
  intro i a hi ha
  by_cases e : i = k
  · subst e
    obtain rfl := Option.some.inj (h1.symm.trans ha)
    exact hl
  · exact h i a (by omega) ha
theorem okPa_bad {N : Int} {ds : List Da} {k : Nat} {z : Da} (h1 : ds[k]? = some z) (hl : paOk N z = false) : ds.all (paOk N) = false := by
  rw [← Bool.not_eq_true, okPa_iff]
  exact fun h => by have := h k z (List.getElem?_eq_some_iff.mp h1).1 h1; rw [hl] at this; exact absurd this (by decide)
theorem paSum_step {ds : List Da} {k : Nat} {z : Da} (h : ds[k]? = some z) : paSum (ds.take (k + 1)) = (paSum (ds.take k)).add (paShare z) := by
  obtain ⟨hk, e⟩ := List.getElem?_eq_some_iff.mp h
  unfold paSum
  rw [List.take_succ_eq_append_getElem hk, List.foldl_append, e]; rfl
theorem of0_good : (Fr.of 0).Good := .inl (by decide +kernel)
theorem paSum_good (ds : List Da) : (paSum ds).Good := by
  have key : ∀ (l : List Da) (s : Fr), s.Good → (l.foldl (fun s d => s.add (paShare d)) s).Good := by
    intro l
    induction l with
    | nil => exact fun s h => h
    | cons d r ih => exact fun s h => ih _ (good_add _ _)
  exact key ds _ of0_good
theorem same_01 : (Fr.of 0).same (Fr.of 1) = false := by decide +kernel
theorem okC_no {N : Int} {T : Fr} {ds : List Da} (h : ¬ (1 ≤ N ∧ N ≤ 9) ∨ ¬ 0 < T.sgn ∨ paAsc ds = false ∨ ds.all (paOk N) = false ∨ (paSum ds).same (Fr.of 1) = false) : okC N T ds = false := by
  unfold okC
  rcases h with h | h | h | h | h
  · rw [decide_eq_false h]; rfl
  · rw [decide_eq_false h]; simp
  · rw [h]; simp
  · rw [h]; simp
  · rw [h]; simp
theorem okC_end {N : Int} {T : Fr} {ds : List Da} (h1 : 1 ≤ N ∧ N ≤ 9) (h2 : 0 < T.sgn) (h3 : paAsc ds = true) (h4 : ds.all (paOk N) = true) : okC N T ds = (paSum ds).same (Fr.of 1) := by
  unfold okC
  rw [decide_eq_true h1, decide_eq_true h2, h3, h4]
  cases ds with
  | nil => simp only [List.length_nil, Nat.lt_irrefl, decide_false, Bool.true_and, Bool.false_and]; exact same_01.symm
  | cons d r => simp
theorem paOk_parts {N : Int} {d : Da} : paOk N d = true ↔ (0 ≤ paNode d ∧ paNode d < 10) ∧ ¬ paNode d = N ∧ 0 < (paShare d).sgn ∧ (paX d).ok = true ∧ (paY d).ok = true := by
  unfold paOk
  simp only [Bool.and_eq_true, decide_eq_true_eq, Bool.not_eq_true', decide_eq_false_iff_not]
theorem dats_get {zs : List Rc} {k : Nat} {z : Rc} (h : zs[k]? = some z) : (dats zs)[k]? = some z.dat := by simp [dats, h]
theorem dats_take (zs : List Rc) (k : Nat) : (dats zs).take k = dats (zs.take k) := by simp [dats]
theorem Rc.shapes13 {w : World} {z : Rc} (hs : z.sh 1 3) (h : z.ra w) : ∃ A P Q R a0 n0 c0 a1 n1 c1 a2 n2 c2 a3 n3 c3 a4 n4 c4 a5 n5 c5, z = ⟨[A], [(P, .slice a0 n0 c0, .slice a1 n1 c1), (Q, .slice a2 n2 c2, .slice a3 n3 c3), (R, .slice a4 n4 c4, .slice a5 n5 c5)]⟩ := by
  obtain ⟨A, P, p0, p1, Q, q0, q1, R, r0, r1, rfl⟩ := Rc.sh13 hs
  obtain ⟨a0, n0, c0, a1, n1, c1, h1, h2⟩ := (h (P, p0, p1) (by simp)).shape
  obtain ⟨a2, n2, c2, a3, n3, c3, h3, h4⟩ := (h (Q, q0, q1) (by simp)).shape
  obtain ⟨a4, n4, c4, a5, n5, c5, h5, h6⟩ := (h (R, r0, r1) (by simp)).shape
  simp only at h1 h2 h3 h4 h5 h6
  subst h1 h2 h3 h4 h5 h6
  exact ⟨_, _, _, _, _, _, _, _, _, _, _, _, _, _, _, _, _, _, _, _, _, _, rfl⟩
theorem RArg.at_ {S ni nf : Nat} {w : World} {A : Option Addr} {n : Nat} {zs : List Rc} (h : RArg S ni nf w A n zs) {k : Nat} (hk : k < n) : ∃ g o z, A = some ⟨g, o, none⟩ ∧ g < w.heap.size ∧ zs[k]? = some z ∧ z.ra w ∧ z.sh ni nf ∧ ∀ (j : Nat) (v : Value), (z.cells)[j]? = some v → w.cell? ⟨g, o + k * S + j, none⟩ = some v := by
  obtain ⟨g, o, z, e, hg, hz, _, hs, hc⟩ := h.row.at_ hk
  exact ⟨g, o, z, e, hg, hz, h.arg z (List.mem_of_getElem? hz), hs, hc⟩
end Go.Proofs.Ytpdggdakkdenoaa
