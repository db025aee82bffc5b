/- slices.Grow and slices.Concat over links. Conditions: none. -/
import Derived.Test.YtgjaennedihckaaGreatGrow
import Derived.Lib.AppendZerosOnto
import Derived.Lib.SliceRun
import Derived.Lib.Walk
namespace Go.Proofs.YtgjaennedihckaaGreat
open Go.RowKit Nt Fr
set_option linter.unusedVariables false

set_option maxRecDepth 100000 in
set_option maxHeartbeats 4000000 in
theorem growLinks_f (n : Nat) (w : World) (hn : n ≤ 1048576) :
    Calls Tryz.prog 88 #[.slice none 0 0, .int .i64 n] w fun e w' => ∃ v, e = .returned v ∧ w'.ownsRow w.heap.size 38 11 v 0 [] ∧ Below w.heap.size w w' := by
  obtain ⟨i0, hi, hz0, hz1, hz2⟩ := info_parts info_link
  rcases Nat.eq_zero_or_pos n with h0 | h0
  · subst h0
    go_enter Tryz.func88, Tryz.ntmps88
    go_wp2
    go_ret
    exact ⟨_, rfl, World.ownsRow_nil _ _ _ _, Below.refl _ _⟩
  · have hold : (Builtin.firstCells i0.size 0 (.slice none 0 0)).run Tryz.prog w.drew = .ok ([] : List Value).toArray w.drew := run_firstCells_none w.drew i0.size 0 0 0
    have hrz := fun ty => Lib.run_append_grow_zeros (P := Tryz.prog) w 53 3 ty 38 i0 _ .i64 .i64 Tryz.underlying53 Tryz.underlying3 hi hz0 none 0 0 [] hold n h0 (by rw [hz1]; decide) (by omega) (by omega) (by rw [hz2]; omega) (growslice_fits (by omega) (by rw [hz2]; omega))
    obtain ⟨G, hG⟩ : ∃ G, grownCap w (0 + n) 0 38 = G := ⟨_, rfl⟩
    have hGn : 0 + n ≤ G := by rw [← hG]; exact grownCap_ge w _ _ _
    have hGm : G ≤ maxLen := by rw [← hG]; exact grownCap_le_maxLen w (0 + n) 0 _ (by unfold maxLen; omega)
    have hG63 : G ≤ 9223372036854775807 := by unfold maxLen at hGm; omega
    rw [hG] at hrz
    have HGM := Lib.hid hGm
    have h1 : ¬ ((n : Int) < 0) := by omega
    have h4 : (0 : Int) < (n : Int) := by omega
    clear hold hG hGm
    rw [Nat.zero_add] at hrz hGn
    go_enter Tryz.func88, Tryz.ntmps88
    go_wp2_with (at_builtin; refine Lib.wpList_append_run _ rfl _ _ _ _ rfl _ _ rfl rfl _ _ (hrz _) ?_)
    all_goals go_ret
    all_goals refine ⟨_, rfl, ⟨rfl, .inr ⟨w.heap.size, G, _, rfl, Nat.le_refl _, Array.getElem?_push_size, Nat.zero_le _, HGM.out, ?_, rfl⟩⟩, ?_⟩
    all_goals first
      | exact (Below.refl w.heap.size w).drew.alloc (Nat.le_refl _) _
      | (simp [Builtin.zeroCells]; omega)
/-- Links that are to be read, in a row of one's own: the cells in new memory, the rows where they were. -/
theorem larg_row {w w' : World} {v : Value} {ys : List Lr} {base : Nat} (h : w'.ownsRow base 38 11 v ys.length (cellsL ys)) (ha : ∀ y ∈ ys, LkA w' y.P y.Q y.R y.p0 y.p1 y.q0 y.q1 y.r0 y.r1) : ∃ A c, v = .slice A ys.length c ∧ LArg w' A ys.length ys := by
  rcases h.2 with ⟨rfl, h0⟩ | ⟨g, cap, cur, rfl, _⟩
  · obtain rfl : ys = [] := List.eq_nil_of_length_eq_zero h0
    exact ⟨none, 0, rfl, ⟨⟨rfl, fun hp => by simp at hp, by simp⟩, ha⟩⟩
  · refine ⟨some ⟨g, 0, none⟩, cap, rfl, ⟨⟨rfl, fun hp => ⟨g, 0, rfl, (h.lt g rfl).2, fun k hk j u hj => ?_⟩, fun y hy => (ha y hy).i⟩, ha⟩⟩
    have hj11 : j < 11 := by have := (List.getElem?_eq_some_iff.mp hj).1; simpa [Lr.cells] using this
    rw [Nat.zero_add, h.cellAt _ (by omega)]
    exact cellsL_at (List.getElem?_eq_getElem hk) j hj
/-- The links of a slice, as cells for append. -/
theorem larg_cells {w : World} {A : Option Addr} {n : Nat} {zs : List Lr} (h : LArg w A n zs) {a : Addr} (hA : A = some a) (hn : 0 < n) : ∀ (j : Nat) (u : Value), (cellsL zs)[j]? = some u → w.cell? (a.add j) = some u := by
  obtain ⟨g, o, e, hg, hc⟩ := h.row.2.1 hn
  obtain rfl : a = ⟨g, o, none⟩ := Option.some.inj (hA.symm.trans e)
  intro j u hj
  have hjl := (List.getElem?_eq_some_iff.mp hj).1
  rw [cellsL_len] at hjl
  have hk : j / 11 < zs.length := by omega
  have hq : (zs[j / 11].cells)[j % 11]? = some u := by
    have h1 := cellsL_at (List.getElem?_eq_getElem hk) (j % 11) (v := (zs[j / 11].cells)[j % 11]'(by rw [Lr.cells_len]; omega)) (List.getElem?_eq_getElem _)
    rw [show j / 11 * 11 + j % 11 = j by omega, hj] at h1
    rw [List.getElem?_eq_getElem (by rw [Lr.cells_len]; omega), Option.some.inj h1]
  rw [Addr.add_lit]
  have := hc (j / 11) hk (j % 11) u hq
  rw [show o + j / 11 * 11 + j % 11 = o + j by omega] at this
  exact this
theorem larg_one {w : World} {A : Option Addr} {n : Nat} {zs : List Lr} (h : LArg w A n zs) : ∀ u ∈ cellsL zs, u.oneCell' = true := by
  intro u hu
  obtain ⟨z, hz, hu⟩ := List.mem_flatMap.mp hu
  obtain ⟨A', B', P, Q, R, a0, n0, c0, a1, n1, c1, a2, n2, c2, a3, n3, c3, a4, n4, c4, a5, n5, c5, rfl⟩ := LArg.shapes (h.arg z hz)
  exact Lr.one_cells _ _ _ _ _ _ _ _ _ _ _ _ _ _ _ _ _ _ _ _ _ _ _ u hu
/-- A slice of links appended to a row of one's own, nil let in. -/
theorem wpList_append_links {P : Program} {w : World} {ops : Array Oper} {rest : List Oper} {o : Oper} {a : Act} {Q : Exit → Act → World → Prop} (hgd : o.guard = none) (s x : Operand) (t : TypeId)
    (ho : o.op = .call { callee := .builtin .append, args := #[s, x], argTypes := #[t, t] })
    (base : Nat) (e : TypeId) (i : TypeInfo) (z : Value) (ht : P.underlying t = some (.slice e)) (hi : P.info? e = some i) (hz : i.zero = some z) (hsize : i.size = 11) (hby : i.bytes = 184) (hzs : z.cells.size = 11)
    (v : Value) (n : Nat) (xs : List Value) (hs : a.eval s = v) (hown : w.ownsRow base e 11 v n xs)
    (A : Option Addr) (m c : Nat) (zs : List Lr) (hx : a.eval x = .slice A m c) (hA : LArg w A m zs) (hnil : A = none → c = 0)
    (h63 : n + m ≤ 4194304) (hbase : base ≤ w.heap.size)
    (h : ∀ v' w', w'.ownsRow base e 11 v' (n + m) (xs ++ cellsL zs) → w.grownBy w' v.ownBlock → wpList P ops Q rest (a.put o.dst v') w') : wpList P ops Q (o :: rest) a w := by
  have hzl := hA.row.1
  cases A with
  | none =>
    obtain rfl : c = 0 := hnil rfl
    have hm : m = 0 := by
      rcases Nat.eq_zero_or_pos m with h0 | h0
      · exact h0
      · obtain ⟨g, o, e, _⟩ := hA.row.2.1 h0; simp at e
    subst hm
    obtain rfl : zs = [] := List.eq_nil_of_length_eq_zero hzl
    refine wpList_append_own_none hgd s x t ho base e i 11 ht hi v n xs hs hown hx ?_
    have := h v w (by simpa [cellsL] using hown) (World.grownBy.refl _ _)
    exact this
  | some ad =>
    refine wpList_append_own w hgd s x t ho base e i z 11 184 ht hi hz hsize hby hzs (by decide) v n xs hs hown ad m c (cellsL zs) hx (by rw [cellsL_len, hzl]) ?_ (larg_one hA) (by unfold maxLen; omega) (by omega) hbase (fun v' w' h1 h2 _ => h v' w' h1 h2)
    rcases Nat.eq_zero_or_pos m with h0 | h0
    · subst h0
      obtain rfl : zs = [] := List.eq_nil_of_length_eq_zero hzl
      intro j u hj; simp [cellsL] at hj
    · exact larg_cells hA rfl h0
set_option maxRecDepth 100000 in
set_option maxHeartbeats 4000000 in
theorem concatLinks_f (gb : Nat) (A1 A2 : Option Addr) (n1 n2 c1 c2 : Nat) (ys zs : List Lr) (w : World) (h1 : LArg w A1 n1 ys) (h2 : LArg w A2 n2 zs) (l1 : A1 = none → c1 = 0) (l2 : A2 = none → c2 = 0) (hn : n1 + n2 ≤ 1048576) (hgb : gb < w.heap.size) (k0 : w.cell? ⟨gb, 0, none⟩ = some (.slice A1 n1 c1)) (k1 : w.cell? ⟨gb, 1, none⟩ = some (.slice A2 n2 c2)) :
    Calls Tryz.prog 61 #[.slice (some ⟨gb, 0, none⟩) 2 2] w fun e w' => ∃ v, e = .returned v ∧ w'.ownsRow w.heap.size 38 11 v (n1 + n2) (cellsL (ys ++ zs)) ∧ Below w.heap.size w w' := by
  obtain ⟨i0, hi, hz0, hz1, hz2⟩ := info_parts info_link
  have H1 := Lib.hid h1
  have H2 := Lib.hid h2
  have L1 := Lib.hid l1
  have L2 := Lib.hid l2
  clear h1 h2 l1 l2
  have hw1 : IntKind.i64.wrap ((n1 : Int) + (n2 : Int)) = (n1 : Int) + (n2 : Int) := by rw [IntKind.wrap_i64]; omega
  go_enter Tryz.func61, Tryz.ntmps61
  go_wp2
  go_loopw [3, 11] (fun sv iv wr => wr = w ∧ ((iv = .int .i64 0 ∧ sv = .int .i64 0) ∨ (iv = .int .i64 1 ∧ sv = .int .i64 n1) ∨ (iv = .int .i64 2 ∧ sv = .int .i64 ((n1 + n2 : Nat) : Int)))) (fun _ iv _ => 2 - (intOf iv).toNat)
  case atStart => exact ⟨rfl, .inl ⟨rfl, rfl⟩⟩
  case round =>
    obtain ⟨hw, hh⟩ := hrel
    subst hw
    rcases hh with ⟨rfl, rfl⟩ | ⟨rfl, rfl⟩ | ⟨rfl, rfl⟩
    · go_wp2
      exact ⟨⟨by first | rfl | trivial, .inr (.inl ⟨by first | rfl | go_num, by first | rfl | go_num⟩)⟩, by simp [intOf]⟩
    · go_wp2
      exact ⟨⟨by first | rfl | trivial, .inr (.inr ⟨by first | rfl | go_num, by first | rfl | go_num⟩)⟩, by simp [intOf]⟩
    · go_wp2_with fail
      refine (growLinks_f (n1 + n2) _ hn).mono ?_
      rintro e w1 ⟨v1, rfl, hown1, hb1⟩
      have O_1 := Lib.hid hown1
      have B_1 := Lib.hid hb1
      have q0 := (hb1.cell (p := ⟨gb, 0, none⟩) hgb).trans k0
      have q1 := (hb1.cell (p := ⟨gb, 1, none⟩) hgb).trans k1
      clear hown1 hb1
      go_wp2
      go_loopw [6, 27] (fun nv iv ws => Below wr.heap.size wr ws ∧ ((iv = .int .i64 0 ∧ ws.ownsRow wr.heap.size 38 11 nv 0 []) ∨ (iv = .int .i64 1 ∧ ws.ownsRow wr.heap.size 38 11 nv n1 (cellsL ys)) ∨ (iv = .int .i64 2 ∧ ws.ownsRow wr.heap.size 38 11 nv (n1 + n2) (cellsL (ys ++ zs))))) (fun _ iv _ => 2 - (intOf iv).toNat)
      case atStart => exact ⟨B_1.out, .inl ⟨rfl, O_1.out⟩⟩
      case round =>
        obtain ⟨hb, hh⟩ := hrel
        have B_2 := Lib.hid hb
        have hsz := hb.size
        have r0 := (hb.cell (p := ⟨gb, 0, none⟩) hgb).trans k0
        have r1 := (hb.cell (p := ⟨gb, 1, none⟩) hgb).trans k1
        clear hb q0 q1
        rcases hh with ⟨rfl, ho⟩ | ⟨rfl, ho⟩ | ⟨rfl, ho⟩
        · have O_2 := Lib.hid ho
          have H12 := Lib.hid (H1.out.below B_2.out)
          clear ho
          go_wp2_with (at_builtin; refine wpList_append_links rfl (.tmp 31) (.tmp 32) 53 rfl _ 38 i0 _ Tryz.underlying53 hi hz0 hz1 hz2 rfl _ 0 [] rfl O_2.out A1 n1 c1 ys rfl H12.out L1.out (by omega) hsz ?_)
          intro v3 w3 hown3 hgrow3
          have B_3 := Lib.hid (B_2.out.grown hgrow3 hsz (fun q hq => (O_2.out.lt q hq).1))
          have O_3 := Lib.hid (show w3.ownsRow _ 38 11 v3 n1 (cellsL ys) by simpa using hown3)
          clear hown3 hgrow3
          go_wp2
          exact ⟨⟨B_3.out, .inr (.inl ⟨by first | rfl | go_num, O_3.out⟩)⟩, by simp [intOf]⟩
        · have O_2 := Lib.hid ho
          have H22 := Lib.hid (H2.out.below B_2.out)
          clear ho
          go_wp2_with (at_builtin; refine wpList_append_links rfl (.tmp 31) (.tmp 32) 53 rfl _ 38 i0 _ Tryz.underlying53 hi hz0 hz1 hz2 rfl _ n1 (cellsL ys) rfl O_2.out A2 n2 c2 zs rfl H22.out L2.out (by omega) hsz ?_)
          intro v3 w3 hown3 hgrow3
          have B_3 := Lib.hid (B_2.out.grown hgrow3 hsz (fun q hq => (O_2.out.lt q hq).1))
          have O_3 := Lib.hid (show w3.ownsRow _ 38 11 v3 (n1 + n2) (cellsL (ys ++ zs)) by rw [cellsL_app]; exact hown3)
          clear hown3 hgrow3
          go_wp2
          exact ⟨⟨B_3.out, .inr (.inr ⟨by first | rfl | go_num, O_3.out⟩)⟩, by simp [intOf]⟩
        · have O_2 := Lib.hid ho
          clear ho
          go_wp2
          go_ret
          exact ⟨_, rfl, O_2.out, B_2.out⟩
end Go.Proofs.YtgjaennedihckaaGreat
