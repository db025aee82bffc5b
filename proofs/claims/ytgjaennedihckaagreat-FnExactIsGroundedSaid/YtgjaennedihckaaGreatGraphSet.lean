/- Link sets as graphs: their ends. Conditions: none. -/
import Derived.Test.YtgjaennedihckaaGreatSetAid
import Derived.Test.YtgjaennedihckaaGreatGraphMath
namespace Go.Proofs.YtgjaennedihckaaGreat
open Go.RowKit Nt Fr
set_option linter.unusedVariables false

/-- The ends of the links. -/
def eds (zs : List Lr) : Gr.Eds := zs.map fun z => (z.A, z.B)
theorem pairwise_of_adj {α : Type} {R : α → α → Prop} (tr : ∀ a b c, R a b → R b c → R a c) : ∀ (l : List α), (∀ (i : Nat) a b, l[i]? = some a → l[i + 1]? = some b → R a b) → l.Pairwise R
  | [], _ => .nil
  | [x], _ => List.pairwise_singleton _ _
  | x :: y :: r, h => by
    have ih := pairwise_of_adj tr (y :: r) (fun i a b ha hb => h (i + 1) a b ha hb)
    have hxy := h 0 x y rfl rfl
    refine List.pairwise_cons.mpr ⟨fun z hz => ?_, ih⟩
    rcases List.mem_cons.mp hz with rfl | hz
    · exact hxy
    · exact tr _ _ _ hxy ((List.pairwise_cons.mp ih).1 z hz)
theorem okSet_ok {zs : List Lr} (h : okSet zs = true) : ∀ z ∈ zs, okK z.A z.B z.P z.Q z.R = true := by
  intro z hz
  have := (Bool.and_eq_true _ _ ▸ h : zs.all Lr.ok = true ∧ ascB zs = true).1
  exact List.all_eq_true.mp this z hz
theorem okSet_eds {zs : List Lr} (h : okSet zs = true) : Gr.OkE (eds zs) := by
  have hok := okSet_ok h
  obtain ⟨_, ha⟩ := okSet_iff.mp h
  refine ⟨fun e he => ?_, ?_⟩
  · obtain ⟨z, hz, rfl⟩ := List.mem_map.mp he
    have := okK_parts (hok z hz)
    simp only; omega
  · unfold eds
    rw [List.pairwise_map]
    refine pairwise_of_adj (fun a b c h1 h2 => by omega) zs fun i a b h1 h2 => ?_
    have := ha i a b (List.getElem?_eq_some_iff.mp h2).1 h1 h2
    unfold Lr.less lessK at this
    simp only [Bool.or_eq_true, Bool.and_eq_true, decide_eq_true_eq] at this
    exact this
theorem eds_len (zs : List Lr) : (eds zs).length = zs.length := by simp [eds]
theorem eds_at {zs : List Lr} {i : Nat} {z : Lr} (h : zs[i]? = some z) : (eds zs)[i]? = some (z.A, z.B) := by simp [eds, h]
theorem eds_take (zs : List Lr) (k : Nat) : (eds zs).take k = eds (zs.take k) := by simp [eds]
theorem eds_succ {zs : List Lr} {k : Nat} {z : Lr} (h : zs[k]? = some z) : eds (zs.take (k + 1)) = eds (zs.take k) ++ [(z.A, z.B)] := by
  obtain ⟨hk, e⟩ := List.getElem?_eq_some_iff.mp h
  rw [List.take_succ_eq_append_getElem hk, e]; simp [eds]
theorem eds_like {ys zs : List Lr} {n : Nat} (hy : ys.length = n) (hz : zs.length = n) (h : ∀ (i : Nat) (y z : Lr), ys[i]? = some y → zs[i]? = some z → y.like z) : eds ys = eds zs := by
  apply List.ext_getElem (by rw [eds_len, eds_len]; omega)
  intro i h1 h2
  rw [eds_len] at h1 h2
  have := h i _ _ (List.getElem?_eq_getElem h1) (List.getElem?_eq_getElem h2)
  simp [eds, this.1, this.2.1]
/-- A link set has few links. -/
theorem Gr.okE_len {es : Gr.Eds} (h : Gr.OkE es) : es.length ≤ 100 := by
  have hn : (es.map fun e => 10 * e.1 + e.2).Nodup := by
    unfold List.Nodup
    rw [List.pairwise_map]
    refine h.2.imp_of_mem (fun {p q} hp hq hpq => ?_)
    have h1 := h.1 p hp
    have h2 := h.1 q hq
    omega
  have := Gr.nodup_le (m := (List.range 100).map fun i : Nat => (i : Int)) hn fun x hx => by
    obtain ⟨e, he, rfl⟩ := List.mem_map.mp hx
    have h1 := h.1 e he
    exact List.mem_map.mpr ⟨(10 * e.1 + e.2).toNat, List.mem_range.mpr (by omega), by omega⟩
  simpa using this
end Go.Proofs.YtgjaennedihckaaGreat
