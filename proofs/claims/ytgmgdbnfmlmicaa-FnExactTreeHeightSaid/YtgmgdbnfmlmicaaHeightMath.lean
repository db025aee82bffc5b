/- The heights of a tree that is given by an order and its parents, computed from the end. Conditions: none. -/
import Derived.Test.YtgmgdbnfmlmicaaOwn
namespace Go.Proofs.Ytgmgdbnfmlmicaa
open Go.RowKit
set_option linter.unusedVariables false

/-- One node more: its height, and the greatest one; none where its parent is no later node. -/
def hStep (os us : List Int) (st : Option (List Int × Int)) (i : Nat) : Option (List Int × Int) :=
  match st with
  | none => none
  | some (hs, g) =>
    if us.getD i 0 = 0 then some (hs.set i 1, if g < 1 then 1 else g)
    else match (os.drop (i + 1)).findIdx? (fun x => x == us.getD i 0) with
      | none => none
      | some k => some ((hs.set i 1).set i (1 + (hs.set i 1).getD (i + 1 + k) 0), if g < 1 + (hs.set i 1).getD (i + 1 + k) 0 then 1 + (hs.set i 1).getD (i + 1 + k) 0 else g)
def hFold (os us : List Int) (l : List Nat) : Option (List Int × Int) := l.foldl (hStep os us) (some (List.replicate os.length 0, 0))
/-- The first k indices from the end. -/
def dnN (n k : Nat) : List Nat := (List.range n).reverse.take k
theorem dnN_zero (n : Nat) : dnN n 0 = [] := rfl
theorem dnN_len {n k : Nat} (h : k ≤ n) : (dnN n k).length = k := by simp [dnN]; omega
theorem dnN_succ {n k : Nat} (h : k < n) : dnN n (k + 1) = dnN n k ++ [n - 1 - k] := by
  unfold dnN
  rw [List.take_add_one]
  congr 1
  have : (List.range n).reverse[k]? = some (n - 1 - k) := by
    rw [List.getElem?_reverse (by simpa using h), List.getElem?_range (by simp; omega)]
    simp
  rw [this]
  rfl
def treeH (os us : List Int) : Int :=
  if os.length = us.length ∧ os.length ≤ 10 then match hFold os us (dnN os.length os.length) with | none => 0 | some (_, g) => g else 0
theorem hStep_none (os us : List Int) (l : List Nat) : l.foldl (hStep os us) none = none := by
  induction l with
  | nil => rfl
  | cons i l ih => rw [List.foldl_cons]; exact ih
theorem hFold_snoc (os us : List Int) (l : List Nat) (i : Nat) : hFold os us (l ++ [i]) = hStep os us (hFold os us l) i := by simp [hFold]
theorem hFold_none_up {os us : List Int} (l m : List Nat) (h : hFold os us l = none) : hFold os us (l ++ m) = none := by
  unfold hFold at *
  rw [List.foldl_append, h, hStep_none]
theorem hFold_stop {os us : List Int} {n k : Nat} (hk : k ≤ n) (h : hFold os us (dnN n k) = none) : hFold os us (dnN n n) = none := by
  have : dnN n n = dnN n k ++ ((List.range n).reverse.drop k) := by
    unfold dnN
    rw [List.take_append_drop, List.take_of_length_le (by simp)]
  rw [this]
  exact hFold_none_up _ _ h
theorem set_getD (hs : List Int) (i j : Nat) (v : Int) : (hs.set i v).getD j 0 = if i = j ∧ j < hs.length then v else hs.getD j 0 := by
  by_cases h : i = j
  · subst h
    by_cases h2 : i < hs.length
    · simp [h2]
    · simp [h2]
  · simp [h, List.getElem?_set_ne h]
theorem snoc_ind {α : Type} {p : List α → Prop} (h0 : p []) (h1 : ∀ l a, p l → p (l ++ [a])) (l : List α) : p l := by
  suffices h : ∀ m : List α, p m.reverse by simpa using h l.reverse
  intro m
  induction m with
  | nil => exact h0
  | cons a m ih => rw [List.reverse_cons]; exact h1 _ _ ih
theorem hFold_bound (os us : List Int) : ∀ (l : List Nat) (hs : List Int) (g : Int), hFold os us l = some (hs, g) → hs.length = os.length ∧ (∀ j, 0 ≤ hs.getD j 0 ∧ hs.getD j 0 ≤ l.length) ∧ 0 ≤ g ∧ g ≤ l.length := by
  refine snoc_ind ?_ (fun l i ih => ?_)
  · intro hs g h
    simp [hFold] at h
    obtain ⟨rfl, rfl⟩ := h
    refine ⟨by simp, fun j => ?_, by simp, by simp⟩
    by_cases hj : j < os.length
    · simp [hj]
    · simp [hj]
  · intro hs g h
    rw [hFold_snoc] at h
    cases q : hFold os us l with
    | none => rw [q] at h; simp [hStep] at h
    | some st =>
      obtain ⟨r, g0⟩ := st
      obtain ⟨hl, hr, hg0, hg1⟩ := ih r g0 q
      rw [q] at h
      have h1 : ∀ j, 0 ≤ (r.set i 1).getD j 0 ∧ (r.set i 1).getD j 0 ≤ l.length + 1 := fun j => by
        have := hr j
        rw [set_getD]
        split <;> omega
      unfold hStep at h
      simp only at h
      split at h
      · simp only [Option.some.injEq, Prod.mk.injEq] at h
        obtain ⟨rfl, rfl⟩ := h
        refine ⟨by simpa using hl, fun j => by have := h1 j; simp only [List.length_append, List.length_cons, List.length_nil]; omega, by split <;> omega, ?_⟩
        simp only [List.length_append, List.length_cons, List.length_nil]
        split <;> omega
      · split at h
        · simp at h
        · rename_i k hk
          obtain ⟨v, hv⟩ : ∃ v, (r.set i 1).getD (i + 1 + k) 0 = v := ⟨_, rfl⟩
          have hvr : v = r.getD (i + 1 + k) 0 := by
            rw [← hv, set_getD, if_neg (by omega)]
          rw [hv] at h
          have hb := hr (i + 1 + k)
          rw [← hvr] at hb
          simp only [Option.some.injEq, Prod.mk.injEq] at h
          obtain ⟨rfl, rfl⟩ := h
          refine ⟨by simpa using hl, fun j => ?_, by split <;> omega, ?_⟩
          · have := h1 j
            rw [set_getD]
            simp only [List.length_append, List.length_cons, List.length_nil]
            split <;> omega
          · simp only [List.length_append, List.length_cons, List.length_nil]
            split <;> omega
theorem treeH_none {os us : List Int} {k : Nat} (hk : k ≤ os.length) (h : hFold os us (dnN os.length k) = none) : treeH os us = 0 := by
  unfold treeH
  rw [hFold_stop hk h]
  split <;> rfl
theorem treeH_some {os us : List Int} (e : os.length = us.length) (hl : os.length ≤ 10) {hs : List Int} {g : Int} (h : hFold os us (dnN os.length os.length) = some (hs, g)) : treeH os us = g := by
  unfold treeH
  rw [h, if_pos ⟨e, hl⟩]
theorem treeH_off {os us : List Int} (h : ¬ (os.length = us.length ∧ os.length ≤ 10)) : treeH os us = 0 := by unfold treeH; rw [if_neg h]
/-- How a search among the later nodes goes on. -/
theorem find_skip {l : List Int} {u : Int} {k : Nat} (h : k < l.length) (hn : ∀ j, j < k → l.getD j 0 ≠ u) (hk : l.getD k 0 = u) : l.findIdx? (fun x => x == u) = some k := by
  rw [List.findIdx?_eq_some_iff_getElem]
  refine ⟨h, by simp at hk; simpa [h] using hk, fun j hj => ?_⟩
  have := hn j hj
  have hj' : j < l.length := by omega
  simpa [hj'] using this
theorem find_none {l : List Int} {u : Int} (hn : ∀ j, j < l.length → l.getD j 0 ≠ u) : l.findIdx? (fun x => x == u) = none := by
  rw [List.findIdx?_eq_none_iff]
  intro x hx
  obtain ⟨j, hj, rfl⟩ := List.mem_iff_getElem.mp hx
  have := hn j hj
  simpa [hj] using this
end Go.Proofs.Ytgmgdbnfmlmicaa
