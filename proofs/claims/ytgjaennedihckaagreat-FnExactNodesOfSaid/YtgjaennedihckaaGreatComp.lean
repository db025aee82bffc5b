/- The program's componentOf and nodes over a graph. Conditions: none. -/
import Derived.Test.YtgjaennedihckaaGreatSort
import Derived.Test.YtgjaennedihckaaGreatGraphI
import Derived.Maps.RangeWalk
namespace Go.Proofs.YtgjaennedihckaaGreat
open Go.RowKit Go.Maps
open Go.ChangeShapes (lits)
set_option linter.unusedVariables false

/-- A list of what has been reached: no number twice; the neighbors of the first i are in it. -/
structure Bfs (es : Gr.Eds) (v : Int) (cl : List Int) (i : Nat) : Prop where
  nodup : cl.Nodup
  start : v ∈ cl
  reach : ∀ x ∈ cl, Gr.Reach es v x
  done : ∀ (j : Nat) (x : Int), j < i → cl[j]? = some x → ∀ y, Gr.adj es x y → y ∈ cl
  le : i ≤ cl.length
theorem Bfs.len {es : Gr.Eds} {v : Int} {cl : List Int} {i : Nat} (h : Bfs es v cl i) (hok : Gr.OkE es) : cl.length ≤ 11 := Gr.reach_len hok h.nodup h.reach
theorem Bfs.comp {es : Gr.Eds} {v : Int} {cl : List Int} (h : Bfs es v cl cl.length) (hok : Gr.OkE es) : sortI cl = Gr.compN es v 10 := by
  have hc : Gr.Comp es v cl := Gr.comp_of h.start h.reach (fun x hx y hy => by
    obtain ⟨j, hj⟩ := List.mem_iff_getElem?.mp hx
    exact h.done j x (List.getElem?_eq_some_iff.mp hj).1 hj y hy)
  refine Gr.asc_ext (sortI_asc h.nodup) (Gr.compN_asc es v 10) fun x => ?_
  rw [sortI_mem, hc x, Gr.compN_ten hok v x]
theorem Bfs.wf {es : Gr.Eds} {v : Int} {cl : List Int} {i : Nat} (h : Bfs es v cl i) (hok : Gr.OkE es) (hv : (Lit.int .i64 v).wf = true) : ∀ x ∈ cl, (Lit.int .i64 x).wf = true := by
  intro x hx
  rcases Gr.reach_ten hok (h.reach x hx) with rfl | e
  · exact hv
  · refine WalkArith.wf_i64 ?_
    simp only [Gr.ten, List.mem_cons, List.not_mem_nil, or_false] at e
    omega
set_option maxRecDepth 100000 in
set_option maxHeartbeats 4000000 in
theorem componentOf_f (B base m : Nat) (es : Gr.Eds) (p : Int → Prop) (D : DataW Unit) (v : Int) (w : World) (hG : GMap w B base m (Gr.adjI es) p D) (hm : m ≤ 4194304) (hok : Gr.OkE es) (hv : (Lit.int .i64 v).wf = true) :
    Calls Tryz.prog 57 #[.map (some B), .int .i64 v] w (OwnR 3 (ints (Gr.compN es v 10)) w) := by
  obtain ⟨i0, hi, hz0, hz1, hz2⟩ := info_parts info_int
  have HG := Lib.hid hG
  have HO := Lib.hid hok
  have HV := Lib.hid hv
  have hb0 : -9223372036854775808 ≤ v ∧ v ≤ 9223372036854775807 := by have h := bounds_i64 hv; omega
  clear hG hok hv
  have R_0 := Lib.hid (show (w.alloc (.cells #[.int .i64 v] 3)).ownsRow w.heap.size 3 1 (.slice (some ⟨w.heap.size, 0, none⟩) 1 1) 1 (ints [v]) from World.ownsRow_lit w #[.int .i64 v] 1 (Nat.le_refl _) (by unfold maxLen; omega) rfl)
  have B_0 := Lib.hid ((Below.refl w.heap.size w).alloc (Nat.le_refl _) (.cells #[.int .i64 v] 3))
  go_enter Tryz.func57, Tryz.ntmps57
  go_wp2
  go_loopw [5, 6] (fun vc iv wr => ∃ (cl : List Int) (i : Nat), iv = .int .i64 i ∧ Bfs es v cl i ∧ wr.ownsRow w.heap.size 3 1 vc cl.length (ints cl) ∧ Below w.heap.size w wr) (fun _ iv _ => 11 - (intOf iv).toNat)
  case atStart => exact ⟨[v], 0, rfl, ⟨by simp, by simp, fun x hx => by simp at hx; subst hx; exact .refl, fun j x hj => by omega, Nat.zero_le _⟩, R_0.out, B_0.out⟩
  case round =>
    obtain ⟨cl, i, rfl, hbfs, hrow, hb⟩ := hrel
    have HF := Lib.hid hbfs
    have HR := Lib.hid hrow
    have HB := Lib.hid hb
    have hlen := hbfs.len HO.out
    have hile := hbfs.le
    obtain ⟨Ac, cc, rfl⟩ := own_shape hrow
    obtain ⟨nc, hnc⟩ : ∃ n, cl.length = n := ⟨_, rfl⟩
    rw [hnc] at HR hlen hile ⊢
    have HNC := Lib.hid hnc
    clear hbfs hrow hb R_0 B_0 hnc
    by_cases hin : i < nc
    · obtain ⟨g, o, rfl, hg, hc⟩ := (VRow.of_own HR.out).at_ hin
      rw [ints_get] at hc
      have hil : i < cl.length := by have := HNC.out; omega
      obtain ⟨x, hx⟩ : ∃ x, cl[i] = x := ⟨_, rfl⟩
      rw [hx] at hc
      have HX := Lib.hid hx
      have hxm : x ∈ cl := by rw [← hx]; exact List.getElem_mem hil
      have HXM := Lib.hid hxm
      have hxw := HF.out.wf HO.out HV.out x hxm
      obtain ⟨u, hlook, hoi, hol, _⟩ := HG.out.at_ (by unfold maxLen; omega) x hxw
      have hlk := hlook wr (HB.out.block B HG.out.lt.1)
      obtain ⟨Au, cu, rfl⟩ := own_shape hoi.1
      obtain ⟨nu, hnu⟩ : ∃ n, (Gr.adjI es x).length = n := ⟨_, rfl⟩
      have HU := Lib.hid (show VRow w Au nu (ints (Gr.adjI es x)) by have h := VRow.of_own hoi.1; rw [hnu] at h; exact h)
      rw [hnu] at hlk hol
      have HNU := Lib.hid hnu
      have hi0 : (0 : Int) ≤ (i : Int) := by omega
      have hi1 : (i : Int) < (nc : Int) := by omega
      clear hx hxm hxw hlook hoi hnu
      go_wp2
      go_loopw [5, 24] (fun vc kv ws => ∃ (ex : List Int) (k : Nat), k ≤ nu ∧ kv = .int .i64 k ∧ Bfs es v (cl ++ ex) i ∧ (∀ (j : Nat) (y : Int), j < k → (Gr.adjI es x)[j]? = some y → y ∈ cl ++ ex) ∧ ws.ownsRow w.heap.size 3 1 vc (cl ++ ex).length (ints (cl ++ ex)) ∧ Below w.heap.size w ws) (fun _ kv _ => nu - (intOf kv).toNat)
      case atStart => exact ⟨[], 0, Nat.zero_le _, rfl, by rw [List.append_nil]; exact HF.out, fun j y hj => by omega, by rw [List.append_nil, HNC.out]; exact HR.out, HB.out⟩
      case round =>
        obtain ⟨ex, k, hk, rfl, hbfs, hall, hrow, hb⟩ := hrel
        have JF := Lib.hid hbfs
        have JA := Lib.hid hall
        have JR := Lib.hid hrow
        have JB := Lib.hid hb
        have hlen2 := hbfs.len HO.out
        obtain ⟨A2, c2, rfl⟩ := own_shape hrow
        obtain ⟨n2, hn2⟩ : ∃ n, (cl ++ ex).length = n := ⟨_, rfl⟩
        rw [hn2] at JR hlen2 ⊢
        have HN2 := Lib.hid hn2
        clear hbfs hall hrow hb hn2 hc hlk HR HB
        by_cases hkn : k < nu
        · obtain ⟨g2, o2, rfl, hg2, hc2⟩ := ((HU.out.below JB.out (Nat.le_refl _))).at_ hkn
          rw [ints_get] at hc2
          have hkl : k < (Gr.adjI es x).length := by have := HNU.out; omega
          obtain ⟨y, hy⟩ : ∃ y, (Gr.adjI es x)[k] = y := ⟨_, rfl⟩
          rw [hy] at hc2
          have HY := Lib.hid hy
          have hk0 : (0 : Int) ≤ (k : Int) := by omega
          have hk1 : (k : Int) < (nu : Int) := by omega
          have HYJ := Lib.hid (show ∀ l : List Int, y ∈ l → (∀ (j : Nat) (y' : Int), j < k → (Gr.adjI es x)[j]? = some y' → y' ∈ l) → ∀ (j : Nat) (y' : Int), j < k + 1 → (Gr.adjI es x)[j]? = some y' → y' ∈ l from fun l hl h j y' hj hy' => by
            by_cases e : j = k
            · subst e
              rw [List.getElem?_eq_getElem hkl] at hy'
              obtain rfl := Option.some.inj hy'
              rw [HY.out]; exact hl
            · exact h j y' (by omega) hy')
          have HADJ := Lib.hid (show Gr.adj es x y from Gr.mem_adjI.mp (by rw [← hy]; exact List.getElem_mem hkl))
          clear hy
          go_wp2_with fail
          refine (containsInts_f A2 n2 c2 (cl ++ ex) y _ (VRow.of_own JR.out) (by omega)).mono ?_
          rintro e w' ⟨rfl, hw⟩
          obtain rfl := hw.symm
          by_cases hcy : y ∈ cl ++ ex
          · have he : (cl ++ ex).contains y = true := by simpa using hcy
            rw [he]
            have HA2 := Lib.hid (HYJ.out _ hcy JA.out)
            clear he hcy
            go_wp2
            exact ⟨⟨ex, k + 1, by omega, by go_num, JF.out, HA2.out, by rw [HN2.out]; exact JR.out, JB.out⟩, by simp [intOf]; omega⟩
          · have he : (cl ++ ex).contains y = false := by simpa using hcy
            rw [he]
            have hyn := (Gr.adj_node HO.out HADJ.out).2
            have JF2 := Lib.hid (show Bfs es v (cl ++ (ex ++ [y])) i from by
              have h := JF.out
              rw [← List.append_assoc]
              refine ⟨List.nodup_append.mpr ⟨h.nodup, by simp, fun a ha b hb => by simp at hb; subst hb; exact fun e => hcy (e ▸ ha)⟩, List.mem_append_left _ h.start, fun z hz => ?_, fun j z hj hz t ht => ?_, by have := h.le; rw [List.length_append]; omega⟩
              · rcases List.mem_append.mp hz with a | a
                · exact h.reach z a
                · simp at a; subst a
                  exact .step (h.reach x (List.mem_append_left _ HXM.out)) HADJ.out
              · have hjl : j < (cl ++ ex).length := by have := h.le; omega
                rw [List.getElem?_append_left hjl] at hz
                exact List.mem_append_left _ (h.done j z hj hz t ht))
            have HA2 := Lib.hid (HYJ.out (cl ++ (ex ++ [y])) (by simp) (fun j y' hj hy' => by rw [← List.append_assoc]; exact List.mem_append_left _ (JA.out j y' hj hy')))
            have HC1 := Lib.hid (cell_one_new wr (.int .i64 y) 3)
            have HOC3 := Lib.hid (ints_oneCell .i64 [y])
            have hsz := JB.out.size
            clear he hcy
            go_wp2_with (at_builtin; refine wpList_append_own _ rfl (.tmp 32) (.tmp 34) 22 rfl w.heap.size 3 i0 _ 1 8 Tryz.underlying22 hi hz0 hz1 hz2 rfl (by decide) _ n2 _ rfl (JR.out.alloc _) ⟨wr.heap.size, 0, none⟩ 1 1 [.int .i64 y] rfl rfl HC1.out HOC3.out (by unfold maxLen; omega) (by omega) (by simp; omega) ?_)
            intro v4 w4 hown4 hgrow4 _
            have JB2 := Lib.hid ((JB.out.alloc hsz (.cells #[.int .i64 y] 3)).grown hgrow4 (by simp; omega) (fun q hq => (JR.out.lt q hq).1))
            have JR2 := Lib.hid (show w4.ownsRow w.heap.size 3 1 v4 (cl ++ (ex ++ [y])).length (ints (cl ++ (ex ++ [y]))) by
              rw [← List.append_assoc, List.length_append, HN2.out]
              simpa [ints] using hown4)
            clear hown4 hgrow4 HC1 HOC3
            go_wp2
            exact ⟨⟨ex ++ [y], k + 1, by omega, by go_num, JF2.out, HA2.out, JR2.out, JB2.out⟩, by simp [intOf]; omega⟩
        · obtain rfl : k = nu := by omega
          have JF2 := Lib.hid (show Bfs es v (cl ++ ex) (i + 1) from by
            have h := JF.out
            have hil : i < cl.length := by have := HNC.out; omega
            refine ⟨h.nodup, h.start, h.reach, fun j z hj hz t ht => ?_, by rw [List.length_append]; omega⟩
            by_cases e : j = i
            · subst e
              rw [List.getElem?_append_left hil, List.getElem?_eq_getElem hil, HX.out] at hz
              obtain rfl := Option.some.inj hz
              obtain ⟨q, hq⟩ := List.mem_iff_getElem?.mp (Gr.mem_adjI.mpr ht)
              exact JA.out q t (by have := (List.getElem?_eq_some_iff.mp hq).1; have := HNU.out; omega) hq
            · exact h.done j z (by omega) hz t ht)
          go_wp2
          exact ⟨⟨cl ++ ex, i + 1, by go_num, JF2.out, by rw [HN2.out]; exact JR.out, JB.out⟩, by simp [intOf]; omega⟩
    · obtain rfl : i = nc := by omega
      have HE := Lib.hid (show sortI cl = Gr.compN es v 10 from Bfs.comp (by rw [HNC.out]; exact HF.out) HO.out)
      have HR2 := Lib.hid (show wr.ownsRow w.heap.size 3 1 (.slice Ac i cc) cl.length (ints cl) by rw [HNC.out]; exact HR.out)
      have hll : cl.length ≤ 1099511627776 := by have := HNC.out; omega
      go_wp2_with fail
      refine (sortInts_f _ cl _ w.heap.size HR2.out hll).mono ?_
      rintro e w' ⟨rfl, hown, hgrow⟩
      have HB2 := Lib.hid (HB.out.grown hgrow HB.out.size (fun q hq => (HR.out.lt q hq).1))
      have HO2 := Lib.hid (show OwnV w' w.heap.size 3 (.slice Ac i cc) (ints (Gr.compN es v 10)) by rw [← HE.out]; exact OwnV.of_own hown)
      clear hown hgrow
      go_wp2
      go_ret
      exact ⟨_, rfl, HO2.out, HB2.out⟩
set_option maxRecDepth 100000 in
set_option maxHeartbeats 4000000 in
theorem nodes_f (B base m : Nat) (es : Gr.Eds) (f : Int → List Int) (D : DataW Unit) (w : World) (hG : GMap w B base m f (Gr.isEnd es) D) (hok : Gr.OkE es) :
    Calls Tryz.prog 55 #[.map (some B)] w (OwnR 3 (ints (Gr.nodesP es)) w) := by
  obtain ⟨i0, hi, hz0, hz1, hz2⟩ := info_parts info_int
  have HO := Lib.hid hok
  have HH := Lib.hid hG.has
  have hBlt := hG.lt.1
  have hown : w.ownsMap Tryz.prog 3 (rowElem (H := Unit) w base 3 .i64) B m D := by
    obtain ⟨es', clock, hb, F, hs, hD, _⟩ := hG.own
    exact ⟨es', clock, hb, F, hs, hD⟩
  clear hG hok
  go_enter Tryz.func55, Tryz.ntmps55
  go_wp2_with (first
    | (at_range; refine wpList_range_own _ rfl _ 73 rfl 3 22 keyedInt Tryz.underlying73 _ B m _ rfl hown ?_; intro w0 hrg0 hg0 hs0)
    | go_in)
  go_frame
  have HW0 := Lib.hid ((Below.refl w.heap.size w).grown hg0 (Nat.le_refl _) (fun j hj => by cases hj))
  have hsw0 := hg0.size
  clear hg0 hs0
  go_loopw [3] (fun vs wr => ∃ (left : Lit → Bool) (cnt : Nat) (ks : List Int), wr.ranges Tryz.prog 3 (rowElem (H := Unit) w base 3 .i64) B w.heap.size m D left cnt ∧ wr.ownsRow w.heap.size 3 1 vs ks.length (ints ks) ∧ ks.Nodup ∧ (∀ x, x ∈ ks ↔ (Maps.has D (.int .i64 x) = true ∧ left (.int .i64 x) = false ∧ x ≠ 0)) ∧ Below w.heap.size w wr) (fun _ wr => wr.rangeLeft B w.heap.size)
  case atStart => exact ⟨_, _, [], hrg0, World.ownsRow_nil _ _ _ _, by simp, fun x => by cases h : Maps.has D (.int .i64 x) <;> simp, HW0.out⟩
  case round =>
    obtain ⟨left, cnt, ks, hrg, hrow, hnd, hmem, hb⟩ := hrel
    have HK := Lib.hid hmem
    have HN := Lib.hid hnd
    have HB := Lib.hid hb
    have hkl : ks.length ≤ 10 := by
      have := Gr.nodup_le (m := Gr.ten) hnd (fun x hx => by
        obtain ⟨e, he, h⟩ := (HH.out x).mp ((hmem x).mp hx).1
        have := HO.out.1 e he
        exact Gr.mem_ten (by omega))
      simpa [Gr.ten] using this
    clear hmem hnd hb hrg0
    go_wp2_with (first
      | (at_next; refine wpList_next_ranges _ rfl _ rfl 3 keyedInt (rowElem (H := Unit) w base 3 .i64) (Value.int .i64) (fun c : Value => c) (fun key kl hk => by obtain ⟨x, rfl, _⟩ := Maps.keyOf_int_inv Tryz.underlying3 hk; exact ⟨x, rfl⟩) (fun v y _ => ⟨v, rfl⟩) B w.heap.size m _ _ _ rfl hrg ?_ ?_)
      | go_in)
    · intro hc0 hl0
      have HE := Lib.hid (show sortI ks = Gr.nodesP es from Gr.asc_ext (sortI_asc HN.out) (Gr.nodesP_asc HO.out) fun x => by
        rw [sortI_mem, HK.out x, Gr.mem_nodesP HO.out, HH.out x]
        constructor
        · rintro ⟨h1, _, h3⟩
          obtain ⟨e, he, h⟩ := h1
          have := HO.out.1 e he
          exact ⟨by omega, e, he, h⟩
        · rintro ⟨h1, h2⟩
          exact ⟨h2, hl0 _, by omega⟩)
      have HR := Lib.hid hrow
      clear hrow hrg hl0
      go_wp2_with fail
      refine (sortInts_f _ ks _ w.heap.size HR.out (by omega)).mono ?_
      rintro e w' ⟨rfl, hown2, hgrow⟩
      have HB2 := Lib.hid (HB.out.grown hgrow HB.out.size (fun q hq => (HR.out.lt q hq).1))
      have HO2 := Lib.hid (show OwnV w' w.heap.size 3 _ (ints (Gr.nodesP es)) by rw [← HE.out]; exact OwnV.of_own hown2)
      clear hown2 hgrow
      go_wp2
      go_ret
      exact ⟨_, rfl, HO2.out, HB2.out⟩
    · intro x c kl yd yp w2 cnt2 hkey hlk hv hat hrg2 hlt hg2 hs2 hen
      obtain ⟨x', ex, rfl, hxw⟩ := Maps.keyOf_int_inv Tryz.underlying3 hkey
      cases ex
      have hrow2 := hrow.kept hg2 (Or.inr (row_ne_iter hrow hrg).symm)
      have hhas : Maps.has D (.int .i64 x) = true := has_true_of_atKey hat
      have HB2 := Lib.hid (HB.out.grown hg2 HB.out.size (fun j hj => by have e9 : w.heap.size = j := Option.some.inj hj; omega))
      have hnk : x ∉ ks := fun h => by
        have := ((HK.out x).mp h).2.1
        rw [hlk] at this; cases this
      have hleft : ∀ z : Int, (left (.int .i64 z) && !(Lit.int .i64 z).sameKey (.int .i64 x)) = false ↔ (left (.int .i64 z) = false ∨ z = x) := by
        intro z
        by_cases e : z = x
        · subst e
          simp [WideAt.sameKey_self (keyedInt.key hkey)]
        · have : (Lit.int .i64 z).sameKey (.int .i64 x) = false := sameKey_ne (fun h => e (by simpa using h))
          simp [this, e]
      have HLF := Lib.hid hleft
      have HNK := Lib.hid hnk
      have HHX := Lib.hid hhas
      have hbx := bounds_i64 hxw
      have hsz2 := HB2.out.size
      clear hs2 hat hv hleft hnk hhas hkey
      by_cases hx0 : x = 0
      · subst hx0
        have HM2 := Lib.hid (show ∀ z, z ∈ ks ↔ (Maps.has D (.int .i64 z) = true ∧ (left (.int .i64 z) && !(Lit.int .i64 z).sameKey (.int .i64 0)) = false ∧ z ≠ 0) from fun z => by
          rw [HK.out z, HLF.out z]
          constructor
          · rintro ⟨a, b, c⟩; exact ⟨a, .inl b, c⟩
          · rintro ⟨a, b | b, c⟩
            · exact ⟨a, b, c⟩
            · exact absurd b c)
        go_wp2
        exact ⟨⟨_, cnt2, ks, hrg2, hrow2, HN.out, HM2.out, HB2.out⟩, by rw [hrg2.left_eq, hrg.left_eq]; exact hlt⟩
      · have hx1 : (x != 0) = true := by simpa using hx0
        have HM2 := Lib.hid (show ∀ z, z ∈ ks ++ [x] ↔ (Maps.has D (.int .i64 z) = true ∧ (left (.int .i64 z) && !(Lit.int .i64 z).sameKey (.int .i64 x)) = false ∧ z ≠ 0) from fun z => by
          rw [List.mem_append, HK.out z, HLF.out z]
          constructor
          · rintro (⟨a, b, c⟩ | h)
            · exact ⟨a, .inl b, c⟩
            · simp at h; subst h; exact ⟨HHX.out, .inr rfl, hx0⟩
          · rintro ⟨a, b | b, c⟩
            · exact .inl ⟨a, b, c⟩
            · subst b; exact .inr (by simp))
        have HN2 := Lib.hid (show (ks ++ [x]).Nodup from List.nodup_append.mpr ⟨HN.out, by simp, fun a ha b hb => by simp at hb; subst hb; exact fun e => HNK.out (e ▸ ha)⟩)
        go_wp2_with (first
          | (at_builtin; refine wpList_append_own _ rfl (.tmp 13) (.tmp 15) 22 rfl w.heap.size 3 i0 _ 1 8 Tryz.underlying22 hi hz0 hz1 hz2 rfl (by decide) _ _ _ rfl (hrow2.alloc _) ⟨w2.heap.size, 0, none⟩ 1 1 [.int .i64 x] rfl rfl (cell_one_new _ _ _) (ints_oneCell .i64 [x]) (by unfold maxLen; omega) (by omega) (by simp; omega) ?_; intro v4 w4 hown4 hgrow4 hnil4; go_frame)
          | go_in)
        have hrg3 := (hrg2.alloc _).kept hgrow4 (row_ne_low hrow2 hBlt) (row_ne_iter hrow2 hrg2)
        have HB3 := Lib.hid ((HB2.out.alloc hsz2 (.cells #[.int .i64 x] 3)).grown hgrow4 (by simp; omega) (fun q hq => (hrow2.lt q hq).1))
        have HR3 := Lib.hid (show w4.ownsRow w.heap.size 3 1 v4 (ks ++ [x]).length (ints (ks ++ [x])) by simpa [ints] using hown4)
        go_roundw
        case rel => exact ⟨_, cnt2, ks ++ [x], hrg3, HR3.out, HN2.out, HM2.out, HB3.out⟩
        case measure => rw [hrg3.left_eq, hrg.left_eq]; exact hlt
end Go.Proofs.YtgjaennedihckaaGreat
