/- Rows appended to an empty one, as steps of a region that draws its order. Conditions: none. -/
import Derived.Test.YtdilbhkdkppodaaRow
import Derived.Deep.RegionLawGrows
import Derived.Laws.AppendOwnNone
namespace Go.Proofs.Ytdilbhkdkppodaa
open Go.RowKit
set_option linter.unusedVariables false

/-- A row appended to an empty one without room, as one step of a region that draws its order: the answer lies in new memory. -/
theorem step_append_fresh {P : Program} {ops : Array Oper} {o : Oper} {a : Act} {w : World} {K : Act → World → Prop} {Q : Exit → Act → World → Prop} {E : Prop}
    (hg : o.guard = none) (s x : Operand) (t : TypeId) (hop : o.op = Op.call { callee := Callee.builtin Builtin.append, args := #[s, x], argTypes := #[t, t] })
    (e : TypeId) (i : TypeInfo) (z : Value) (bytes : Nat) (h1 : P.underlying t = some (.slice e)) (h2 : P.info? e = some i) (h3 : i.zero = some z) (h4 : i.size = 1) (h5 : i.bytes = bytes) (h6 : z.cells.size = 1)
    (ao : Option Addr) (hs : a.eval s = .slice ao 0 0) (A : Option Addr) (m c : Nat) (news : List Value) (hx : a.eval x = .slice A m c) (hm : 0 < m) (b1 : m ≤ maxLen) (b2 : m * bytes ≤ 140737488355328) (h1c : ∀ u ∈ news, u.oneCell' = true) (hrow : VRow w A m news)
    (hK : ∀ A' c' w', OwnV w' w.heap.size e (.slice A' news.length c') news → Below w.heap.size w w' → K (a.put o.dst (.slice A' news.length c')) w') :
    if Region.wanted o (yielded ops a.tmps) = true then Oper.wp P o a w K Q else E := by
  obtain ⟨g, of, rfl, hgl, hc⟩ := hrow.2 hm
  refine step_append_grows hg s x t hop e i z 1 bytes h1 h2 h3 h4 h5 h6 (by decide) ao 0 0 [] hs (fun _ => ⟨rfl, rfl⟩) rfl (fun _ _ j u hj => by simp at hj) ⟨g, of, none⟩ m c news hx (by have := hrow.1; omega) (fun j u hj => ?_) h1c (by omega) (by omega) (by simpa using b2) ?_
  · have hjl : j < m := by have h2 := (List.getElem?_eq_some_iff.mp hj).1; have := hrow.1; omega
    have := hc j hjl
    rw [hj] at this
    rw [Addr.add_lit]
    exact this
  · intro v' w' hown hgr
    have ho := OwnV.of_own hown
    rw [List.nil_append] at ho
    obtain ⟨A', c', rfl⟩ := ho.shape
    exact hK A' c' w' ho ((Below.refl w.heap.size w).grown hgr (Nat.le_refl _) (fun k hk => by simp at hk))
/-- A row appended to an empty one that was made here: the answer lies behind base. -/
theorem step_append_row {P : Program} {ops : Array Oper} {o : Oper} {a : Act} {w : World} {K : Act → World → Prop} {Q : Exit → Act → World → Prop} {E : Prop}
    (hg : o.guard = none) (s x : Operand) (t : TypeId) (hop : o.op = Op.call { callee := Callee.builtin Builtin.append, args := #[s, x], argTypes := #[t, t] })
    (e : TypeId) (i : TypeInfo) (z : Value) (bytes : Nat) (h1 : P.underlying t = some (.slice e)) (h2 : P.info? e = some i) (h3 : i.zero = some z) (h4 : i.size = 1) (h5 : i.bytes = bytes) (h6 : z.cells.size = 1)
    (base g : Nat) (hs : a.eval s = .slice (some ⟨g, 0, none⟩) 0 0) (A : Option Addr) (m c : Nat) (news : List Value) (hx : a.eval x = .slice A m c) (hnil : A = none → c = 0) (b1 : m ≤ maxLen) (b2 : m * bytes ≤ 140737488355328) (h1c : ∀ u ∈ news, u.oneCell' = true) (hW : Whole w base g e []) (hrow : VRow w A m news) (hbase : base ≤ w.heap.size)
    (hK : ∀ A' c' w', OwnV w' base e (.slice A' news.length c') news → Below base w w' → K (a.put o.dst (.slice A' news.length c')) w') :
    if Region.wanted o (yielded ops a.tmps) = true then Oper.wp P o a w K Q else E := by
  have hw : Region.wanted o (yielded ops a.tmps) = true := by simp [Region.wanted, hg]
  have hbg : base ≤ g := (OwnV.of_whole hW).lt g rfl |>.1
  rw [if_pos hw]
  cases A with
  | none =>
    obtain rfl : c = 0 := hnil rfl
    obtain rfl : m = 0 := by
      rcases Nat.eq_zero_or_pos m with h0 | h0
      · exact h0
      · obtain ⟨g, o, e, _⟩ := hrow.2 h0; simp at e
    obtain rfl : news = [] := List.eq_nil_of_length_eq_zero hrow.1
    have hrun := run_append_owned_none (P := P) (w := w) base t o.type e i 1 h1 h2 (.slice (some ⟨g, 0, none⟩) 0 0) 0 [] hW
    unfold Oper.wp
    simp [execOp, hop, resolve, invoke, builtin, hs, hx, hrun, Result.andThen]
    exact hK _ _ w (OwnV.of_whole hW) (Below.refl _ _)
  | some ad =>
    refine wp_append_own w s x t hop base e i z 1 bytes h1 h2 h3 h4 h5 h6 (by decide) _ 0 [] hs hW ad m c news hx (by have := hrow.1; omega) ?_ h1c (by omega) (by simpa using b2) hbase ?_
    · intro j u hj
      have hjl : j < m := by have h2 := (List.getElem?_eq_some_iff.mp hj).1; have := hrow.1; omega
      obtain ⟨g', of, hA, _, hc⟩ := hrow.2 (by omega)
      obtain rfl : ad = ⟨g', of, none⟩ := Option.some.inj hA
      have := hc j hjl
      rw [hj] at this
      rw [Addr.add_lit]
      exact this
    · intro v' w' hown hgr _
      have ho := OwnV.of_own hown
      rw [List.nil_append] at ho
      obtain ⟨A', c', rfl⟩ := ho.shape
      exact hK A' c' w' ho ((Below.refl base w).grown hgr hbase (fun k hk => by have e9 : g = k := Option.some.inj hk; omega))
/-- An empty row that was made. -/
theorem whole_empty (w : World) (e : TypeId) : Whole (w.alloc (.cells #[] e)) w.heap.size w.heap.size e [] := World.ownsRow_made (base := w.heap.size) (e := e) (size := 1) w #[] 0 (Nat.le_refl _) (Nat.zero_le _) rfl
end Go.Proofs.Ytdilbhkdkppodaa
