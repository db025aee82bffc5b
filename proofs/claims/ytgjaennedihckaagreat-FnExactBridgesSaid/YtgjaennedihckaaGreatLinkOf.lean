/- LinkOf of both sides. Conditions: none. -/
import Derived.Test.YtgjaennedihckaaGreatLkCopy
import Derived.Test.YtgjaennedihckaaGreatGraphSet
import Derived.Test.YtgjaennedihckaaGreatIsSetS
namespace Go.Proofs.YtgjaennedihckaaGreat
open Go.RowKit Nt Fr
set_option linter.unusedVariables false

/-- A link without its memory. -/
structure Dt where
  A : Int
  B : Int
  P : Fr
  Q : Fr
  R : Fr
def Lr.d (z : Lr) : Dt := ⟨z.A, z.B, z.P, z.Q, z.R⟩
def dts (zs : List Lr) : List Dt := zs.map Lr.d
theorem like_d {y z : Lr} (h : y.like z) : y.d = z.d := by obtain ⟨h1, h2, h3, h4, h5⟩ := h; simp [Lr.d, h1, h2, h3, h4, h5]
theorem d_like {y z : Lr} (h : y.d = z.d) : y.like z := by simp only [Lr.d, Dt.mk.injEq] at h; exact h
theorem dts_like {ys zs : List Lr} {n : Nat} (hy : ys.length = n) (hz : zs.length = n) (h : ∀ (i : Nat) (y z : Lr), ys[i]? = some y → zs[i]? = some z → y.like z) : dts ys = dts zs := by
  apply List.ext_getElem (by simp [dts]; omega)
  intro i h1 h2
  simp only [dts, List.length_map] at h1 h2
  simp only [dts, List.getElem_map]
  exact like_d (h i _ _ (List.getElem?_eq_getElem h1) (List.getElem?_eq_getElem h2))
theorem like_dts {ys zs : List Lr} (h : dts ys = dts zs) : ∀ (i : Nat) (y z : Lr), ys[i]? = some y → zs[i]? = some z → y.like z := by
  intro i y z hy hz
  have h1 : (dts ys)[i]? = some y.d := by simp [dts, hy]
  have h2 : (dts zs)[i]? = some z.d := by simp [dts, hz]
  rw [h, h2] at h1
  exact d_like (Option.some.inj h1).symm
theorem dts_at {zs : List Lr} {k : Nat} {z : Lr} (h : zs[k]? = some z) : (dts zs)[k]? = some z.d := by simp [dts, h]
/-- Does a link have these ends, in either order? -/
def hit (a b : Int) (d : Dt) : Bool := decide ((d.A = a ∧ d.B = b) ∨ (d.A = b ∧ d.B = a))
def lkAns (ok : Bool) (ds : List Dt) (a b : Int) : Option Dt := if ok = true then ds.find? (hit a b) else none
def anA : Option Dt → Int | some d => d.A | none => 0
def anB : Option Dt → Int | some d => d.B | none => 0
def anP : Option Dt → Fr | some d => d.P | none => Fr.zero
def anQ : Option Dt → Fr | some d => d.Q | none => Fr.zero
def anR : Option Dt → Fr | some d => d.R | none => Fr.zero
theorem find_first {α : Type} {p : α → Bool} {l : List α} {k : Nat} {x : α} (h : l[k]? = some x) (hx : p x = true) (hb : ∀ (j : Nat) (y : α), j < k → l[j]? = some y → p y = false) : l.find? p = some x := by
  induction l generalizing k with
  | nil => simp at h
  | cons a r ih =>
    cases k with
    | zero => simp at h; subst h; simp [hx]
    | succ k =>
      simp at h
      have := hb 0 a (by omega) rfl
      simp only [List.find?_cons, this]
      exact ih h (fun j y hj hy => hb (j + 1) y (by omega) (by simpa using hy))
theorem find_none {α : Type} {p : α → Bool} {l : List α} (hb : ∀ (j : Nat) (y : α), l[j]? = some y → p y = false) : l.find? p = none := by
  rw [List.find?_eq_none]
  intro x hx
  obtain ⟨j, hj⟩ := List.mem_iff_getElem?.mp hx
  rw [hb j x hj]; simp
/-- What a function leaves that answers a link and whether there is one. -/
def OwnAns (r : Option Dt) (w : World) (en : Ending) (w' : World) : Prop := OwnKB (anA r) (anB r) (anP r) (anQ r) (anR r) r.isSome w en w'
theorem ownAns_none {r : Option Dt} {w w' : World} (h : r = none) (hb : Below w.heap.size w w') : OwnAns r w (.returned (.tuple #[.agg #[.int .i64 0, .int .i64 0, .bool false, .slice none 0 0, .slice none 0 0, .bool false, .slice none 0 0, .slice none 0 0, .bool false, .slice none 0 0, .slice none 0 0], .bool false])) w' := by
  subst h
  exact ⟨_, _, _, _, _, _, rfl, Owns.nils _ _ 6, hb⟩
theorem ownAns_some {r : Option Dt} {A B : Int} {P Q R : Fr} {w w' : World} {v0 v1 v2 v3 v4 v5 : Value} (h : r = some ⟨A, B, P, Q, R⟩) (ho : Owns w' w.heap.size (rowsK P Q R v0 v1 v2 v3 v4 v5)) (hb : Below w.heap.size w w') : OwnAns r w (.returned (.tuple #[.agg #[.int .i64 A, .int .i64 B, .bool P.s, v0, v1, .bool Q.s, v2, v3, .bool R.s, v4, v5], .bool true])) w' := by
  subst h
  exact ⟨_, _, _, _, _, _, rfl, ho, hb⟩
theorem lkAns_like {ys zs : List Lr} {n : Nat} {a b : Int} (hy : ys.length = n) (hz : zs.length = n) (h : ∀ (i : Nat) (y z : Lr), ys[i]? = some y → zs[i]? = some z → y.like z) : lkAns (okSet ys) (dts ys) a b = lkAns (okSet zs) (dts zs) a b := by
  rw [okSet_like hy hz h, dts_like hy hz h]
theorem lkAns_len (zs : List Lr) (a b : Int) : (anP (lkAns (okSet zs) (dts zs) a b)).len + (anQ (lkAns (okSet zs) (dts zs) a b)).len + (anR (lkAns (okSet zs) (dts zs) a b)).len ≤ 1048576 := by
  cases hr : lkAns (okSet zs) (dts zs) a b with
  | none => simp [anP, anQ, anR, Fr.len, Fr.zero]
  | some d =>
    unfold lkAns at hr
    split at hr
    · rename_i hok
      have hd := List.mem_of_find?_eq_some hr
      obtain ⟨z, hz, rfl⟩ := List.mem_map.mp hd
      obtain ⟨h1, h2, h3⟩ := okK_fr (okSet_ok hok z hz)
      have g1 := (Fr.Good.len (.inl h1))
      have g2 := (Fr.Good.len (.inl h2))
      have g3 := (Fr.Good.len (.inl h3))
      simp only [anP, anQ, anR, Lr.d]; omega
    · simp at hr
theorem cmpK_trans3 {A B C E X Y : Int} (h1 : lessK A B C E = true) (h2 : 0 < cmpK A B X Y) : 0 < cmpK C E X Y := by
  unfold lessK at h1
  unfold cmpK cmpI2 at h2 ⊢
  simp only [Bool.or_eq_true, Bool.and_eq_true, decide_eq_true_eq] at h1
  split at h2 <;> (repeat' split at *) <;> omega
theorem place_hit {zs : List Lr} {a b : Int} {i : Nat} {z : Lr} (hok : okSet zs = true) (hp : PlaceAt zs (min a b) (max a b) i true) (hz : zs[i]? = some z) : lkAns true (dts zs) a b = some z.d := by
  obtain ⟨_, h2, h3, _⟩ := hp
  have hv := okSet_ok hok
  refine find_first (dts_at hz) ?_ (fun j y hj hy => ?_)
  · have := (h3 z hz).2
    have h4 : cmpK z.A z.B (min a b) (max a b) = 0 := of_decide_eq_true this.symm
    obtain ⟨e1, e2⟩ := (cmpK_zero _ _ _ _).mp h4
    unfold hit; exact decide_eq_true (by simp only [Lr.d]; omega)
  · simp only [dts, List.getElem?_map, Option.map_eq_some_iff] at hy
    obtain ⟨u, hu, rfl⟩ := hy
    have hk := okK_parts (hv u (List.mem_of_getElem? hu))
    have h4 := h2 j u hj hu
    unfold hit; refine decide_eq_false fun hx => ?_
    simp only [Lr.d] at hx
    have := (cmpK_zero u.A u.B (min a b) (max a b)).mpr (by omega)
    omega
theorem place_miss {zs : List Lr} {a b : Int} {i : Nat} (hok : okSet zs = true) (hp : PlaceAt zs (min a b) (max a b) i false) : lkAns true (dts zs) a b = none := by
  obtain ⟨_, h2, h3, _⟩ := hp
  have hv := okSet_ok hok
  have hpw : zs.Pairwise fun p q => lessK p.A p.B q.A q.B = true := by
    obtain ⟨_, ha⟩ := okSet_iff.mp hok
    refine pairwise_of_adj (fun p q s h1 h2 => by unfold lessK at *; simp only [Bool.or_eq_true, Bool.and_eq_true, decide_eq_true_eq] at *; omega) zs fun j p q h1 h2 => ha j p q (List.getElem?_eq_some_iff.mp h2).1 h1 h2
  refine find_none fun j y hy => ?_
  simp only [dts, List.getElem?_map, Option.map_eq_some_iff] at hy
  obtain ⟨u, hu, rfl⟩ := hy
  have hk := okK_parts (hv u (List.mem_of_getElem? hu))
  have hne : cmpK u.A u.B (min a b) (max a b) ≠ 0 := by
    by_cases hj : j < i
    · have := h2 j u hj hu; omega
    · have hi : i < zs.length := by have := (List.getElem?_eq_some_iff.mp hu).1; omega
      have hz := h3 _ (List.getElem?_eq_getElem hi)
      have hz2 : ¬ cmpK zs[i].A zs[i].B (min a b) (max a b) = 0 := of_decide_eq_false hz.2.symm
      by_cases e : j = i
      · subst e
        obtain rfl := Option.some.inj ((List.getElem?_eq_getElem hi).symm.trans hu)
        exact hz2
      · obtain ⟨hjl, e2⟩ := List.getElem?_eq_some_iff.mp hu
        have := List.pairwise_iff_getElem.mp hpw i j hi hjl (by omega)
        rw [e2] at this
        have := cmpK_trans3 (X := min a b) (Y := max a b) this (by omega)
        omega
  unfold hit; refine decide_eq_false fun hx => hne ((cmpK_zero _ _ _ _).mpr ?_)
  simp only [Lr.d] at hx
  omega
end Go.Proofs.YtgjaennedihckaaGreat
