/- The program's componentOf and nodes over a graph. Conditions: none. -/
import Derived.Test.YtgmgdbnfmlmicaaGreatSort
import Derived.Test.YtgmgdbnfmlmicaaGreatGraphI
import Derived.Maps.RangeWalk
namespace Go.Proofs.YtgmgdbnfmlmicaaGreat
open Go.RowKit Go.Maps
open Go.ChangeShapes (lits)
set_option linter.unusedVariables false

/-- A list of what has been reached: no number twice; the neighbors of the first i are in it. -/
structure Bfs (es : Gr.Eds) (v : Int) (cl : List Int) (i : Nat) : Prop where
  nodup : cl.Nodup
  start : v ∈ cl
  reach : ∀ x ∈ cl, Gr.Reach es v x
  done : ∀ (j : Nat) (x : Int), j < i → cl[j]? = some x → ∀ y, Gr.adj es x y → y ∈ cl
  le : i ≤ cl.length
theorem Bfs.len {es : Gr.Eds} {v : Int} {cl : List Int} {i : Nat} (h : Bfs es v cl i) (hok : Gr.OkE es) : cl.length ≤ 11 := Gr.reach_len hok h.nodup h.reach
theorem Bfs.comp {es : Gr.Eds} {v : Int} {cl : List Int} (h : Bfs es v cl cl.length) (hok : Gr.OkE es) : sortI cl = Gr.compN es v 10 := by
  have hc : Gr.Comp es v cl := Gr.comp_of h.start h.reach (fun x hx y hy => by
    obtain ⟨j, hj⟩ := List.mem_iff_getElem?.mp hx
    exact h.done j x (List.getElem?_eq_some_iff.mp hj).1 hj y hy)
  refine Gr.asc_ext (sortI_asc h.nodup) (Gr.compN_asc es v 10) fun x => ?_
  rw [sortI_mem, hc x, Gr.compN_ten hok v x]
theorem Bfs.wf {es : Gr.Eds} {v : Int} {cl : List Int} {i : Nat} (h : Bfs es v cl i) (hok : Gr.OkE es) (hv : (Lit.int .i64 v).wf = true) : ∀ x ∈ cl, (Lit.int .i64 x).wf = true := by
  intro x hx
  rcases Gr.reach_ten hok (h.reach x hx) with rfl | e
  · exact hv
  · refine WalkArith.wf_i64 ?_
    simp only [Gr.ten, List.mem_cons, List.not_mem_nil, or_false] at e
    omega
set_option maxRecDepth 100000 in
set_option maxHeartbeats 4000000 in
theorem nodes_f (B base m : Nat) (es : Gr.Eds) (f : Int → List Int) (D : DataW Unit) (w : World) (hG : GMap w B base m f (Gr.isEnd es) D) (hok : Gr.OkE es) :
    Calls Tryz.prog 39 #[.map (some B)] w (OwnR 3 (ints (Gr.nodesP es)) w) := by
  obtain ⟨i0, hi, hz0, hz1, hz2⟩ := info_parts info_int
  have HO := Lib.hid hok
  have HH := Lib.hid hG.has
  have hBlt := hG.lt.1
  have hown : w.ownsMap Tryz.prog 3 (rowElem (H := Unit) w base 3 .i64) B m D := by
    obtain ⟨es', clock, hb, F, hs, hD, _⟩ := hG.own
    exact ⟨es', clock, hb, F, hs, hD⟩
  clear hG hok
  go_enter Tryz.func39, Tryz.ntmps39
  go_wp2_with (first
    | (at_range; refine wpList_range_own _ rfl _ 55 rfl 3 25 keyedInt Tryz.underlying55 _ B m _ rfl hown ?_; intro w0 hrg0 hg0 hs0)
    | go_in)
  go_frame
  have HW0 := Lib.hid ((Below.refl w.heap.size w).grown hg0 (Nat.le_refl _) (fun j hj => by cases hj))
  have hsw0 := hg0.size
  clear hg0 hs0
  go_loopw [3] (fun vs wr => ∃ (left : Lit → Bool) (cnt : Nat) (ks : List Int), wr.ranges Tryz.prog 3 (rowElem (H := Unit) w base 3 .i64) B w.heap.size m D left cnt ∧ wr.ownsRow w.heap.size 3 1 vs ks.length (ints ks) ∧ ks.Nodup ∧ (∀ x, x ∈ ks ↔ (Maps.has D (.int .i64 x) = true ∧ left (.int .i64 x) = false ∧ x ≠ 0)) ∧ Below w.heap.size w wr) (fun _ wr => wr.rangeLeft B w.heap.size)
  case atStart => exact ⟨_, _, [], hrg0, World.ownsRow_nil _ _ _ _, by simp, fun x => by cases h : Maps.has D (.int .i64 x) <;> simp, HW0.out⟩
  case round =>
    obtain ⟨left, cnt, ks, hrg, hrow, hnd, hmem, hb⟩ := hrel
    have HK := Lib.hid hmem
    have HN := Lib.hid hnd
    have HB := Lib.hid hb
    have hkl : ks.length ≤ 10 := by
      have := Gr.nodup_le (m := Gr.ten) hnd (fun x hx => by
        obtain ⟨e, he, h⟩ := (HH.out x).mp ((hmem x).mp hx).1
        have := HO.out.1 e he
        exact Gr.mem_ten (by omega))
      simpa [Gr.ten] using this
    clear hmem hnd hb hrg0
    go_wp2_with (first
      | (at_next; refine wpList_next_ranges _ rfl _ rfl 3 keyedInt (rowElem (H := Unit) w base 3 .i64) (Value.int .i64) (fun c : Value => c) (fun key kl hk => by obtain ⟨x, rfl, _⟩ := Maps.keyOf_int_inv Tryz.underlying3 hk; exact ⟨x, rfl⟩) (fun v y _ => ⟨v, rfl⟩) B w.heap.size m _ _ _ rfl hrg ?_ ?_)
      | go_in)
    · intro hc0 hl0
      have HE := Lib.hid (show sortI ks = Gr.nodesP es from Gr.asc_ext (sortI_asc HN.out) (Gr.nodesP_asc HO.out) fun x => by
        rw [sortI_mem, HK.out x, Gr.mem_nodesP HO.out, HH.out x]
        constructor
        · rintro ⟨h1, _, h3⟩
          obtain ⟨e, he, h⟩ := h1
          have := HO.out.1 e he
          exact ⟨by omega, e, he, h⟩
        · rintro ⟨h1, h2⟩
          exact ⟨h2, hl0 _, by omega⟩)
      have HR := Lib.hid hrow
      clear hrow hrg hl0
      go_wp2_with fail
      refine (sortInts_f _ ks _ w.heap.size HR.out (by omega)).mono ?_
      rintro e w' ⟨rfl, hown2, hgrow⟩
      have HB2 := Lib.hid (HB.out.grown hgrow HB.out.size (fun q hq => (HR.out.lt q hq).1))
      have HO2 := Lib.hid (show OwnV w' w.heap.size 3 _ (ints (Gr.nodesP es)) by rw [← HE.out]; exact OwnV.of_own hown2)
      clear hown2 hgrow
      go_wp2
      go_ret
      exact ⟨_, rfl, HO2.out, HB2.out⟩
    · intro x c kl yd yp w2 cnt2 hkey hlk hv hat hrg2 hlt hg2 hs2 hen
      obtain ⟨x', ex, rfl, hxw⟩ := Maps.keyOf_int_inv Tryz.underlying3 hkey
      cases ex
      have hrow2 := hrow.kept hg2 (Or.inr (row_ne_iter hrow hrg).symm)
      have hhas : Maps.has D (.int .i64 x) = true := has_true_of_atKey hat
      have HB2 := Lib.hid (HB.out.grown hg2 HB.out.size (fun j hj => by have e9 : w.heap.size = j := Option.some.inj hj; omega))
      have hnk : x ∉ ks := fun h => by
        have := ((HK.out x).mp h).2.1
        rw [hlk] at this; cases this
      have hleft : ∀ z : Int, (left (.int .i64 z) && !(Lit.int .i64 z).sameKey (.int .i64 x)) = false ↔ (left (.int .i64 z) = false ∨ z = x) := by
        intro z
        by_cases e : z = x
        · subst e
          simp [WideAt.sameKey_self (keyedInt.key hkey)]
        · have : (Lit.int .i64 z).sameKey (.int .i64 x) = false := sameKey_ne (fun h => e (by simpa using h))
          simp [this, e]
      have HLF := Lib.hid hleft
      have HNK := Lib.hid hnk
      have HHX := Lib.hid hhas
      have hbx := bounds_i64 hxw
      have hsz2 := HB2.out.size
      clear hs2 hat hv hleft hnk hhas hkey
      by_cases hx0 : x = 0
      · subst hx0
        have HM2 := Lib.hid (show ∀ z, z ∈ ks ↔ (Maps.has D (.int .i64 z) = true ∧ (left (.int .i64 z) && !(Lit.int .i64 z).sameKey (.int .i64 0)) = false ∧ z ≠ 0) from fun z => by
          rw [HK.out z, HLF.out z]
          constructor
          · rintro ⟨a, b, c⟩; exact ⟨a, .inl b, c⟩
          · rintro ⟨a, b | b, c⟩
            · exact ⟨a, b, c⟩
            · exact absurd b c)
        go_wp2
        exact ⟨⟨_, cnt2, ks, hrg2, hrow2, HN.out, HM2.out, HB2.out⟩, by rw [hrg2.left_eq, hrg.left_eq]; exact hlt⟩
      · have hx1 : (x != 0) = true := by simpa using hx0
        have HM2 := Lib.hid (show ∀ z, z ∈ ks ++ [x] ↔ (Maps.has D (.int .i64 z) = true ∧ (left (.int .i64 z) && !(Lit.int .i64 z).sameKey (.int .i64 x)) = false ∧ z ≠ 0) from fun z => by
          rw [List.mem_append, HK.out z, HLF.out z]
          constructor
          · rintro (⟨a, b, c⟩ | h)
            · exact ⟨a, .inl b, c⟩
            · simp at h; subst h; exact ⟨HHX.out, .inr rfl, hx0⟩
          · rintro ⟨a, b | b, c⟩
            · exact .inl ⟨a, b, c⟩
            · subst b; exact .inr (by simp))
        have HN2 := Lib.hid (show (ks ++ [x]).Nodup from List.nodup_append.mpr ⟨HN.out, by simp, fun a ha b hb => by simp at hb; subst hb; exact fun e => HNK.out (e ▸ ha)⟩)
        go_wp2_with (first
          | (at_builtin; refine wpList_append_own _ rfl (.tmp 13) (.tmp 15) 25 rfl w.heap.size 3 i0 _ 1 8 Tryz.underlying25 hi hz0 hz1 hz2 rfl (by decide) _ _ _ rfl (hrow2.alloc _) ⟨w2.heap.size, 0, none⟩ 1 1 [.int .i64 x] rfl rfl (cell_one_new _ _ _) (ints_oneCell .i64 [x]) (by unfold maxLen; omega) (by omega) (by simp; omega) ?_; intro v4 w4 hown4 hgrow4 hnil4; go_frame)
          | go_in)
        have hrg3 := (hrg2.alloc _).kept hgrow4 (row_ne_low hrow2 hBlt) (row_ne_iter hrow2 hrg2)
        have HB3 := Lib.hid ((HB2.out.alloc hsz2 (.cells #[.int .i64 x] 3)).grown hgrow4 (by simp; omega) (fun q hq => (hrow2.lt q hq).1))
        have HR3 := Lib.hid (show w4.ownsRow w.heap.size 3 1 v4 (ks ++ [x]).length (ints (ks ++ [x])) by simpa [ints] using hown4)
        go_roundw
        case rel => exact ⟨_, cnt2, ks ++ [x], hrg3, HR3.out, HN2.out, HM2.out, HB3.out⟩
        case measure => rw [hrg3.left_eq, hrg.left_eq]; exact hlt
end Go.Proofs.YtgmgdbnfmlmicaaGreat
