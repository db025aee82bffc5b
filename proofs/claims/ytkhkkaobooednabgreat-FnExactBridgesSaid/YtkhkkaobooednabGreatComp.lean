/- The program's componentOf and nodes over a graph. Conditions: none. -/
import Derived.Test.YtkhkkaobooednabGreatSort
import Derived.Test.YtkhkkaobooednabGreatGraphI
import Derived.Maps.RangeWalk
namespace Go.Proofs.YtkhkkaobooednabGreat
open Go.RowKit Go.Maps
open Go.ChangeShapes (lits)
set_option linter.unusedVariables false

/-- A list of what has been reached: no number twice; the neighbors of the first i are in it. -/
structure Bfs (es : Gr.Eds) (v : Int) (cl : List Int) (i : Nat) : Prop where
  nodup : cl.Nodup
  start : v ∈ cl
  reach : ∀ x ∈ cl, Gr.Reach es v x
  done : ∀ (j : Nat) (x : Int), j < i → cl[j]? = some x → ∀ y, Gr.adj es x y → y ∈ cl
  le : i ≤ cl.length
theorem Bfs.len {es : Gr.Eds} {v : Int} {cl : List Int} {i : Nat} (h : Bfs es v cl i) (hok : Gr.OkE es) : cl.length ≤ 11 := Gr.reach_len hok h.nodup h.reach
theorem Bfs.comp {es : Gr.Eds} {v : Int} {cl : List Int} (h : Bfs es v cl cl.length) (hok : Gr.OkE es) : sortI cl = Gr.compN es v 10 := by
  have hc : Gr.Comp es v cl := Gr.comp_of h.start h.reach (fun x hx y hy => by
    obtain ⟨j, hj⟩ := List.mem_iff_getElem?.mp hx
    exact h.done j x (List.getElem?_eq_some_iff.mp hj).1 hj y hy)
  refine Gr.asc_ext (sortI_asc h.nodup) (Gr.compN_asc es v 10) fun x => ?_
  rw [sortI_mem, hc x, Gr.compN_ten hok v x]
theorem Bfs.wf {es : Gr.Eds} {v : Int} {cl : List Int} {i : Nat} (h : Bfs es v cl i) (hok : Gr.OkE es) (hv : (Lit.int .i64 v).wf = true) : ∀ x ∈ cl, (Lit.int .i64 x).wf = true := by
  intro x hx
  rcases Gr.reach_ten hok (h.reach x hx) with rfl | e
  · exact hv
  · refine WalkArith.wf_i64 ?_
    simp only [Gr.ten, List.mem_cons, List.not_mem_nil, or_false] at e
    omega
set_option maxRecDepth 100000 in
set_option maxHeartbeats 4000000 in
theorem componentOf_f (B base m : Nat) (es : Gr.Eds) (p : Int → Prop) (D : DataW Unit) (v : Int) (w : World) (hG : GMap w B base m (Gr.adjI es) p D) (hm : m ≤ 4194304) (hok : Gr.OkE es) (hv : (Lit.int .i64 v).wf = true) :
    Calls Tryz.prog 21 #[.map (some B), .int .i64 v] w (OwnR 3 (ints (Gr.compN es v 10)) w) := by
  obtain ⟨i0, hi, hz0, hz1, hz2⟩ := info_parts info_int
  have HG := Lib.hid hG
  have HO := Lib.hid hok
  have HV := Lib.hid hv
  have hb0 : -9223372036854775808 ≤ v ∧ v ≤ 9223372036854775807 := by have h := bounds_i64 hv; omega
  clear hG hok hv
  have R_0 := Lib.hid (show (w.alloc (.cells #[.int .i64 v] 3)).ownsRow w.heap.size 3 1 (.slice (some ⟨w.heap.size, 0, none⟩) 1 1) 1 (ints [v]) from World.ownsRow_lit w #[.int .i64 v] 1 (Nat.le_refl _) (by unfold maxLen; omega) rfl)
  have B_0 := Lib.hid ((Below.refl w.heap.size w).alloc (Nat.le_refl _) (.cells #[.int .i64 v] 3))
  go_enter Tryz.func21, Tryz.ntmps21
  go_wp2
  go_loopw [5, 6] (fun vc iv wr => ∃ (cl : List Int) (i : Nat), iv = .int .i64 i ∧ Bfs es v cl i ∧ wr.ownsRow w.heap.size 3 1 vc cl.length (ints cl) ∧ Below w.heap.size w wr) (fun _ iv _ => 11 - (intOf iv).toNat)
  case atStart => exact ⟨[v], 0, rfl, ⟨by simp, by simp, fun x hx => by simp at hx; subst hx; exact .refl, fun j x hj => by omega, Nat.zero_le _⟩, R_0.out, B_0.out⟩
  case round =>
    obtain ⟨cl, i, rfl, hbfs, hrow, hb⟩ := hrel
    have HF := Lib.hid hbfs
    have HR := Lib.hid hrow
    have HB := Lib.hid hb
    have hlen := hbfs.len HO.out
    have hile := hbfs.le
    obtain ⟨Ac, cc, rfl⟩ := own_shape hrow
    obtain ⟨nc, hnc⟩ : ∃ n, cl.length = n := ⟨_, rfl⟩
    rw [hnc] at HR hlen hile ⊢
    have HNC := Lib.hid hnc
    clear hbfs hrow hb R_0 B_0 hnc
    by_cases hin : i < nc
    · obtain ⟨g, o, rfl, hg, hc⟩ := (VRow.of_own HR.out).at_ hin
      rw [ints_get] at hc
      have hil : i < cl.length := by have := HNC.out; omega
      obtain ⟨x, hx⟩ : ∃ x, cl[i] = x := ⟨_, rfl⟩
      rw [hx] at hc
      have HX := Lib.hid hx
      have hxm : x ∈ cl := by rw [← hx]; exact List.getElem_mem hil
      have HXM := Lib.hid hxm
      have hxw := HF.out.wf HO.out HV.out x hxm
      obtain ⟨u, hlook, hoi, hol, _⟩ := HG.out.at_ (by unfold maxLen; omega) x hxw
      have hlk := hlook wr (HB.out.block B HG.out.lt.1)
      obtain ⟨Au, cu, rfl⟩ := own_shape hoi.1
      obtain ⟨nu, hnu⟩ : ∃ n, (Gr.adjI es x).length = n := ⟨_, rfl⟩
      have HU := Lib.hid (show VRow w Au nu (ints (Gr.adjI es x)) by have h := VRow.of_own hoi.1; rw [hnu] at h; exact h)
      rw [hnu] at hlk hol
      have HNU := Lib.hid hnu
      have hi0 : (0 : Int) ≤ (i : Int) := by omega
      have hi1 : (i : Int) < (nc : Int) := by omega
      clear hx hxm hxw hlook hoi hnu
      go_wp2
      go_loopw [5, 24] (fun vc kv ws => ∃ (ex : List Int) (k : Nat), k ≤ nu ∧ kv = .int .i64 k ∧ Bfs es v (cl ++ ex) i ∧ (∀ (j : Nat) (y : Int), j < k → (Gr.adjI es x)[j]? = some y → y ∈ cl ++ ex) ∧ ws.ownsRow w.heap.size 3 1 vc (cl ++ ex).length (ints (cl ++ ex)) ∧ Below w.heap.size w ws) (fun _ kv _ => nu - (intOf kv).toNat)
      case atStart => exact ⟨[], 0, Nat.zero_le _, rfl, by rw [List.append_nil]; exact HF.out, fun j y hj => by omega, by rw [List.append_nil, HNC.out]; exact HR.out, HB.out⟩
      case round =>
        obtain ⟨ex, k, hk, rfl, hbfs, hall, hrow, hb⟩ := hrel
        have JF := Lib.hid hbfs
        have JA := Lib.hid hall
        have JR := Lib.hid hrow
        have JB := Lib.hid hb
        have hlen2 := hbfs.len HO.out
        obtain ⟨A2, c2, rfl⟩ := own_shape hrow
        obtain ⟨n2, hn2⟩ : ∃ n, (cl ++ ex).length = n := ⟨_, rfl⟩
        rw [hn2] at JR hlen2 ⊢
        have HN2 := Lib.hid hn2
        clear hbfs hall hrow hb hn2 hc hlk HR HB
        by_cases hkn : k < nu
        · obtain ⟨g2, o2, rfl, hg2, hc2⟩ := ((HU.out.below JB.out (Nat.le_refl _))).at_ hkn
          rw [ints_get] at hc2
          have hkl : k < (Gr.adjI es x).length := by have := HNU.out; omega
          obtain ⟨y, hy⟩ : ∃ y, (Gr.adjI es x)[k] = y := ⟨_, rfl⟩
          rw [hy] at hc2
          have HY := Lib.hid hy
          have hk0 : (0 : Int) ≤ (k : Int) := by omega
          have hk1 : (k : Int) < (nu : Int) := by omega
          have HYJ := Lib.hid (show ∀ l : List Int, y ∈ l → (∀ (j : Nat) (y' : Int), j < k → (Gr.adjI es x)[j]? = some y' → y' ∈ l) → ∀ (j : Nat) (y' : Int), j < k + 1 → (Gr.adjI es x)[j]? = some y' → y' ∈ l from fun l hl h j y' hj hy' => by
            by_cases e : j = k
            · subst e
              rw [List.getElem?_eq_getElem hkl] at hy'
              obtain rfl := Option.some.inj hy'
              rw [HY.out]; exact hl
            · exact h j y' (by omega) hy')
          have HADJ := Lib.hid (show Gr.adj es x y from Gr.mem_adjI.mp (by rw [← hy]; exact List.getElem_mem hkl))
          clear hy
          go_wp2_with fail
          refine (containsInts_f A2 n2 c2 (cl ++ ex) y _ (VRow.of_own JR.out) (by omega)).mono ?_
          rintro e w' ⟨rfl, hw⟩
          obtain rfl := hw.symm
          by_cases hcy : y ∈ cl ++ ex
          · have he : (cl ++ ex).contains y = true := by simpa using hcy
            rw [he]
            have HA2 := Lib.hid (HYJ.out _ hcy JA.out)
            clear he hcy
            go_wp2
            exact ⟨⟨ex, k + 1, by omega, by go_num, JF.out, HA2.out, by rw [HN2.out]; exact JR.out, JB.out⟩, by simp [intOf]; omega⟩
          · have he : (cl ++ ex).contains y = false := by simpa using hcy
            rw [he]
            have hyn := (Gr.adj_node HO.out HADJ.out).2
            have JF2 := Lib.hid (show Bfs es v (cl ++ (ex ++ [y])) i from by
              have h := JF.out
              rw [← List.append_assoc]
              refine ⟨List.nodup_append.mpr ⟨h.nodup, by simp, fun a ha b hb => by simp at hb; subst hb; exact fun e => hcy (e ▸ ha)⟩, List.mem_append_left _ h.start, fun z hz => ?_, fun j z hj hz t ht => ?_, by have := h.le; rw [List.length_append]; omega⟩
              · rcases List.mem_append.mp hz with a | a
                · exact h.reach z a
                · simp at a; subst a
                  exact .step (h.reach x (List.mem_append_left _ HXM.out)) HADJ.out
              · have hjl : j < (cl ++ ex).length := by have := h.le; omega
                rw [List.getElem?_append_left hjl] at hz
                exact List.mem_append_left _ (h.done j z hj hz t ht))
            have HA2 := Lib.hid (HYJ.out (cl ++ (ex ++ [y])) (by simp) (fun j y' hj hy' => by rw [← List.append_assoc]; exact List.mem_append_left _ (JA.out j y' hj hy')))
            have HC1 := Lib.hid (cell_one_new wr (.int .i64 y) 3)
            have HOC3 := Lib.hid (ints_oneCell .i64 [y])
            have hsz := JB.out.size
            clear he hcy
            go_wp2_with (at_builtin; refine wpList_append_own _ rfl (.tmp 32) (.tmp 34) 31 rfl w.heap.size 3 i0 _ 1 8 Tryz.underlying31 hi hz0 hz1 hz2 rfl (by decide) _ n2 _ rfl (JR.out.alloc _) ⟨wr.heap.size, 0, none⟩ 1 1 [.int .i64 y] rfl rfl HC1.out HOC3.out (by unfold maxLen; omega) (by omega) (by simp; omega) ?_)
            intro v4 w4 hown4 hgrow4 _
            have JB2 := Lib.hid ((JB.out.alloc hsz (.cells #[.int .i64 y] 3)).grown hgrow4 (by simp; omega) (fun q hq => (JR.out.lt q hq).1))
            have JR2 := Lib.hid (show w4.ownsRow w.heap.size 3 1 v4 (cl ++ (ex ++ [y])).length (ints (cl ++ (ex ++ [y]))) by
              rw [← List.append_assoc, List.length_append, HN2.out]
              simpa [ints] using hown4)
            clear hown4 hgrow4 HC1 HOC3
            go_wp2
            exact ⟨⟨ex ++ [y], k + 1, by omega, by go_num, JF2.out, HA2.out, JR2.out, JB2.out⟩, by simp [intOf]; omega⟩
        · obtain rfl : k = nu := by omega
          have JF2 := Lib.hid (show Bfs es v (cl ++ ex) (i + 1) from by
            have h := JF.out
            have hil : i < cl.length := by have := HNC.out; omega
            refine ⟨h.nodup, h.start, h.reach, fun j z hj hz t ht => ?_, by rw [List.length_append]; omega⟩
            by_cases e : j = i
            · subst e
              rw [List.getElem?_append_left hil, List.getElem?_eq_getElem hil, HX.out] at hz
              obtain rfl := Option.some.inj hz
              obtain ⟨q, hq⟩ := List.mem_iff_getElem?.mp (Gr.mem_adjI.mpr ht)
              exact JA.out q t (by have := (List.getElem?_eq_some_iff.mp hq).1; have := HNU.out; omega) hq
            · exact h.done j z (by omega) hz t ht)
          go_wp2
          exact ⟨⟨cl ++ ex, i + 1, by go_num, JF2.out, by rw [HN2.out]; exact JR.out, JB.out⟩, by simp [intOf]; omega⟩
    · obtain rfl : i = nc := by omega
      have HE := Lib.hid (show sortI cl = Gr.compN es v 10 from Bfs.comp (by rw [HNC.out]; exact HF.out) HO.out)
      have HR2 := Lib.hid (show wr.ownsRow w.heap.size 3 1 (.slice Ac i cc) cl.length (ints cl) by rw [HNC.out]; exact HR.out)
      have hll : cl.length ≤ 1099511627776 := by have := HNC.out; omega
      go_wp2_with fail
      refine (sortInts_f _ cl _ w.heap.size HR2.out hll).mono ?_
      rintro e w' ⟨rfl, hown, hgrow⟩
      have HB2 := Lib.hid (HB.out.grown hgrow HB.out.size (fun q hq => (HR.out.lt q hq).1))
      have HO2 := Lib.hid (show OwnV w' w.heap.size 3 (.slice Ac i cc) (ints (Gr.compN es v 10)) by rw [← HE.out]; exact OwnV.of_own hown)
      clear hown hgrow
      go_wp2
      go_ret
      exact ⟨_, rfl, HO2.out, HB2.out⟩
end Go.Proofs.YtkhkkaobooednabGreat
