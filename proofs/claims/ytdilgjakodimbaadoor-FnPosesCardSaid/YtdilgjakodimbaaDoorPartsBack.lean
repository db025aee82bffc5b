/- Plain facts: a text that is made of three parts without the separator is cut into just these. Conditions: none. -/
import Derived.Test.YtdilgjakodimbaaDoorJoinBack
import Derived.Test.YtdilgjakodimbaaDoorNumMath
namespace Go.Proofs.YtdilgjakodimbaaDoor
open Sp Jn Wm
set_option linter.unusedVariables false

theorem cut_same {c : UInt8} {a b r q : List UInt8} (ha : c ∉ a) (hb : c ∉ b) (h : a ++ c :: r = b ++ c :: q) : a = b ∧ r = q := by
  induction a generalizing b with
  | nil =>
    cases b with
    | nil => simpa using h
    | cons y b => simp at h; exact absurd h.1 (by intro e; subst e; simp at hb)
  | cons x a ih =>
    cases b with
    | nil => simp at h; exact absurd h.1.symm (by intro e; subst e; simp at ha)
    | cons y b =>
      simp only [List.cons_append, List.cons.injEq] at h
      simp only [List.mem_cons, not_or] at ha hb
      obtain ⟨e1, e2⟩ := ih ha.2 hb.2 h.2
      exact ⟨by rw [h.1, e1], e2⟩
theorem cut_not {c : UInt8} {a b r : List UInt8} (hb : c ∉ b) : a ++ c :: r ≠ b := by
  intro h
  apply hb
  rw [← h]
  simp
theorem joinL_two (c : UInt8) (x y : ByteArray) (r : List ByteArray) : joinL ⟨#[c]⟩ (x :: y :: r) = x.data.toList ++ c :: joinL ⟨#[c]⟩ (y :: r) := rfl
theorem three_parts {c : UInt8} {ps : List ByteArray} {x y z : ByteArray} (hf : ∀ p ∈ ps, c ∉ p.data.toList) (hx : c ∉ x.data.toList) (hy : c ∉ y.data.toList) (hz : c ∉ z.data.toList)
    (h : joinL ⟨#[c]⟩ ps = x.data.toList ++ c :: (y.data.toList ++ c :: z.data.toList)) : ps = [x, y, z] := by
  match ps, hf, h with
  | [], _, h => exact absurd h.symm (cut_not (by simp [joinL]))
  | [p], hf, h => exact absurd h.symm (cut_not (by simpa [joinL] using hf))
  | [p, q], hf, h =>
    rw [joinL_two] at h
    obtain ⟨_, e2⟩ := cut_same (hf p (by simp)) hx h
    exact absurd e2.symm (cut_not (by simpa [joinL] using hf q (by simp)))
  | p :: q :: r :: t, hf, h =>
    rw [joinL_two] at h
    obtain ⟨e1, e2⟩ := cut_same (hf p (by simp)) hx h
    rw [joinL_two] at e2
    obtain ⟨e3, e4⟩ := cut_same (hf q (by simp)) hy e2
    obtain rfl : p = x := bytes_ext e1
    obtain rfl : q = y := bytes_ext e3
    cases t with
    | nil =>
      obtain rfl : r = z := bytes_ext e4
      rfl
    | cons t1 t2 =>
      rw [joinL_two] at e4
      exact absurd e4 (cut_not hz)
theorem scan_free (s : ByteArray) (c : UInt8) (k : Nat) (hk : k ≤ s.size) : (∀ p ∈ (scan s ⟨#[c]⟩ k).1, c ∉ p.data.toList) ∧ c ∉ (s.extract (scan s ⟨#[c]⟩ k).2 k).data.toList := by
  induction k with
  | zero => simp [scan]
  | succ k ih =>
    obtain ⟨h1, h2⟩ := ih (by omega)
    have hle := (scan_le s ⟨#[c]⟩ k).1
    by_cases hc : cuts ⟨#[c]⟩ (s.data.toList.getD k 0) = true
    · rw [scan_yes s _ k hc]
      refine ⟨fun p hp => ?_, ?_⟩
      · rcases List.mem_append.mp hp with hp | hp
        · exact h1 p hp
        · obtain rfl := List.mem_singleton.mp hp
          exact h2
      · have h0 : (s.extract (k + 1) (k + 1)).data.toList = [] := by rw [ext_data]; simp
        rw [h0]
        simp
    · have hc' : cuts ⟨#[c]⟩ (s.data.toList.getD k 0) = false := by simpa using hc
      rw [scan_no s _ k hc']
      refine ⟨h1, ?_⟩
      rw [ext_succ s _ k hle (by omega)]
      intro hm
      rcases List.mem_append.mp hm with hm | hm
      · exact h2 hm
      · have e := List.mem_singleton.mp hm
        unfold cuts at hc'
        rw [show (⟨#[c]⟩ : ByteArray).data.toList = [c] from rfl, List.contains_cons, List.contains_nil, Bool.or_false, ← e] at hc'
        simp at hc'
theorem parts_free (s : ByteArray) (c : UInt8) : ∀ p ∈ parts s ⟨#[c]⟩, c ∉ p.data.toList := by
  obtain ⟨h1, h2⟩ := scan_free s c s.size (Nat.le_refl _)
  intro p hp
  rcases List.mem_append.mp hp with hp | hp
  · exact h1 p hp
  · obtain rfl := List.mem_singleton.mp hp
    exact h2
theorem parts_three {c : UInt8} {x y z : ByteArray} (hx : c ∉ x.data.toList) (hy : c ∉ y.data.toList) (hz : c ∉ z.data.toList) : parts (x ++ ⟨#[c]⟩ ++ y ++ ⟨#[c]⟩ ++ z) ⟨#[c]⟩ = [x, y, z] := by
  refine three_parts (parts_free _ c) hx hy hz ?_
  have h := congrArg (·.data.toList) (join_parts (x ++ ⟨#[c]⟩ ++ y ++ ⟨#[c]⟩ ++ z) c)
  have e : (join ⟨#[c]⟩ (parts (x ++ ⟨#[c]⟩ ++ y ++ ⟨#[c]⟩ ++ z) ⟨#[c]⟩)).data.toList = joinL ⟨#[c]⟩ (parts (x ++ ⟨#[c]⟩ ++ y ++ ⟨#[c]⟩ ++ z) ⟨#[c]⟩) := by simp [join]
  rw [← e]
  rw [h]
  simp
theorem parts_back {c : UInt8} {s x y z : ByteArray} (h : parts s ⟨#[c]⟩ = [x, y, z]) : s = x ++ ⟨#[c]⟩ ++ y ++ ⟨#[c]⟩ ++ z := by
  have e := join_parts s c
  rw [h] at e
  rw [← e]
  apply bytes_ext
  simp [join, joinL]
theorem dig_free {l : List UInt8} (h : digAll l = true) : (44 : UInt8) ∉ l := by
  intro hm
  have := List.all_eq_true.mp h 44 hm
  simp [dg] at this
theorem itoa_free (n : Int) : (44 : UInt8) ∉ (Nu.itoaB n).data.toList := by
  rw [Nu.itoaB_data]
  unfold Lib.itoa
  split
  · intro hm
    rcases List.mem_cons.mp hm with e | e
    · exact absurd e (by decide)
    · exact dig_free (Nu.dec_dg _) e
  · exact dig_free (Nu.dec_dg _)
end Go.Proofs.YtdilgjakodimbaaDoor
