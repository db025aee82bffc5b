/- Orders of a link set: when is a list of integers one? The program's IsOrder and the model's. Conditions: none. -/
import Derived.Test.YtgmgdbnfmlmicaaGreatSeqI
import Derived.Test.YtgmgdbnfmlmicaaGreatGraphS
namespace Go.Proofs.YtgmgdbnfmlmicaaGreat
open Go.RowKit Go.Shelf Nt Fr
set_option linter.unusedVariables false

/-- Is it an order of the link set? -/
def ordA (zs : List Lr) (os : List Int) : Bool := okSet zs && decide (sortI os = Gr.nodesP (eds zs))
theorem ordA_like {ys zs : List Lr} {n : Nat} {os : List Int} (hy : ys.length = n) (hz : zs.length = n) (h : ∀ (i : Nat) (y z : Lr), ys[i]? = some y → zs[i]? = some z → y.like z) : ordA ys os = ordA zs os := by unfold ordA; rw [okSet_like hy hz h, eds_like hy hz h]
theorem ord_of {os N : List Int} (hN : Gr.Asc N) (h1 : ∀ v ∈ os, v ∈ N) (h2 : os.Nodup) (h3 : os.length = N.length) : sortI os = N := by
  refine Gr.asc_ext (sortI_asc h2) hN (fun x => ?_)
  rw [sortI_mem]
  refine ⟨h1 x, fun hx => ?_⟩
  apply Classical.byContradiction
  intro hn
  have := Gr.nodup_le (l := x :: os) (m := N) (List.nodup_cons.mpr ⟨hn, h2⟩) (fun y hy => by
    rcases List.mem_cons.mp hy with rfl | hy
    · exact hx
    · exact h1 y hy)
  simp at this
  omega
theorem of_ord {os N : List Int} (hN : Gr.Asc N) (h : sortI os = N) : (∀ v ∈ os, v ∈ N) ∧ os.Nodup ∧ os.length = N.length := by
  refine ⟨fun v hv => by rw [← h]; exact sortI_mem.mpr hv, ?_, by rw [← h, sortI_len]⟩
  have : (sortI os).Nodup := by rw [h]; exact hN.nodup
  exact (List.mergeSort_perm os _).nodup_iff.mp this
set_option maxRecDepth 100000 in
set_option maxHeartbeats 4000000 in
theorem isOrder_i (A U : Option Addr) (n c m d : Nat) (zs : List Lr) (os : List Int) (w : World) (hA : LArg w A n zs) (hU : VRow w U m (ints os)) (hn : n ≤ 1048576) (hm : m ≤ 1048576) :
    Calls Tryz.prog 15 #[.slice A n c, .slice U m d] w fun e w' => e = .returned (.bool (ordA zs os)) ∧ Below w.heap.size w w' := by
  have HA := Lib.hid hA
  have HU := Lib.hid hU
  have HLU := Lib.hid (show os.length = m by simpa [ints] using hU.1)
  clear hA hU
  obtain ⟨ok, hok⟩ : ∃ q, okSet zs = q := ⟨_, rfl⟩
  have HOK := Lib.hid hok
  obtain ⟨r, hr⟩ : ∃ q, ordA zs os = q := ⟨_, rfl⟩
  have HRr := Lib.hid hr
  rw [hr]
  clear hr hok
  have B_0 := Lib.hid (Below.refl w.heap.size w)
  go_enter Tryz.func15, Tryz.ntmps15
  go_wp2_with fail
  refine (isLinkSet_i A n c zs _ (HA.out.below B_0.out) hn (fun u h => isAscending_f A n c zs u h hn)).mono ?_
  rintro e w1 ⟨rfl, hb⟩
  rw [HOK.out]
  have B_1 := Lib.hid (B_0.out.trans (hb.mono B_0.out.size))
  clear hb B_0
  cases ok with
  | false =>
    have HE := Lib.hid (show false = r by rw [← HRr.out]; simp [ordA, HOK.out])
    go_wp2
    go_ret
    exact ⟨ret_bool HE.out, B_1.out⟩
  | true =>
    have HE := Lib.hid (show decide (sortI os = Gr.nodesP (eds zs)) = r by rw [← HRr.out]; simp [ordA, HOK.out])
    go_wp2_with fail
    refine (values_f U m d w1).mono ?_
    rintro e w2 ⟨rfl, rfl⟩
    obtain ⟨w2, hw2⟩ : ∃ q, w1.alloc (.cells #[.slice U m d] 25) = q := ⟨_, rfl⟩
    have hb2 : Below w1.heap.size w1 w2 := by rw [← hw2]; exact (Below.refl _ _).alloc (Nat.le_refl _) _
    have hc2 : w2.cell? ⟨w1.heap.size, 0, none⟩ = some (.slice U m d) := by rw [← hw2]; exact (Boxed.new w1 25 (.slice U m d)).cell
    have hs2 : w1.heap.size < w2.heap.size := by rw [← hw2]; simp
    rw [hw2]
    have B_2 := Lib.hid (B_1.out.trans (hb2.mono B_1.out.size))
    have HC2 := Lib.hid hc2
    clear hb2 hc2 hw2 B_1
    go_wp2_with fail
    refine (sortedInts_f w1.heap.size U m d os w2 hm hs2 HC2.out (HU.out.below B_2.out (Nat.le_refl _))).mono ?_
    rintro e w3 ⟨v3, rfl, ho, hb⟩
    obtain ⟨A3, c3, rfl⟩ := ho.shape
    rw [ints_len, sortI_len, HLU.out] at *
    have O_3 := Lib.hid ho
    have B_3 := Lib.hid (B_2.out.trans (hb.mono B_2.out.size))
    clear ho hb B_2 HC2
    go_wp2_with fail
    refine (graphOf_f A n c zs _ (HA.out.below B_3.out) hn HOK.out).mono ?_
    rintro e w4 ⟨rfl, ⟨D, hG⟩, hb⟩
    have B_4 := Lib.hid (B_3.out.trans (hb.mono B_3.out.size))
    have O_4 := Lib.hid (O_3.out.below hb)
    have HG := Lib.hid hG
    clear hb hG O_3 B_3
    go_wp2_with fail
    refine (nodes_f _ _ _ (eds zs) _ D _ HG.out (okSet_eds HOK.out)).mono ?_
    rintro e w5 ⟨v5, rfl, ho, hb⟩
    obtain ⟨N, hN⟩ : ∃ N, Gr.nodesP (eds zs) = N := ⟨_, rfl⟩
    have hNl : N.length ≤ 4194304 := by have := nodesA_len zs; unfold nodesA at this; rw [HOK.out, if_pos rfl, hN] at this; exact this
    rw [hN] at ho HE
    obtain ⟨A5, c5, rfl⟩ := ho.shape
    obtain ⟨nN, hnN⟩ : ∃ q, (ints N).length = q := ⟨_, rfl⟩
    rw [hnN] at ho ⊢
    have hnN2 : nN ≤ 4194304 := by rw [ints_len] at hnN; omega
    have B_5 := Lib.hid (B_4.out.trans (hb.mono B_4.out.size))
    have O_5 := Lib.hid (O_4.out.below hb)
    have N_5 := Lib.hid ho
    clear ho hb HG O_4 B_4 hnN hN
    go_wp2_with fail
    refine (equalInts_f A3 A5 m nN c3 c5 (sortI os) N w5 O_5.out.row N_5.out.row (by omega) (by omega)).mono ?_
    rintro e w6 ⟨rfl, hb⟩
    rw [HE.out]
    have B_6 := Lib.hid (B_5.out.trans (hb.mono B_5.out.size))
    clear hb
    go_wp2
    go_ret
    exact ⟨rfl, B_6.out⟩
set_option maxRecDepth 100000 in
set_option maxHeartbeats 4000000 in
theorem isOrder_s (A U : Option Addr) (n c m d : Nat) (zs : List Lr) (os : List Int) (w : World) (hA : LArg w A n zs) (hU : VRow w U m (ints os)) (hn : n ≤ 1048576) (hm : m ≤ 1048576) :
    Calls Tryz.prog 18 #[.slice A n c, .slice U m d] w fun e w' => e = .returned (.bool (ordA zs os)) ∧ Below w.heap.size w w' := by
  have HA := Lib.hid hA
  have HU := Lib.hid hU
  have HLU := Lib.hid (show os.length = m by simpa [ints] using hU.1)
  clear hA hU
  obtain ⟨i0, hi, hz0, hz1, hz2⟩ := info_parts info_int
  obtain ⟨ok, hok⟩ : ∃ q, okSet zs = q := ⟨_, rfl⟩
  have HOK := Lib.hid hok
  obtain ⟨r, hr⟩ : ∃ q, ordA zs os = q := ⟨_, rfl⟩
  have HRr := Lib.hid hr
  rw [hr]
  clear hr hok
  obtain ⟨N, hN⟩ : ∃ N, nodesA zs = N := ⟨_, rfl⟩
  have hNl : N.length ≤ 4194304 := by have := nodesA_len zs; rw [hN] at this; exact this
  -- what the loop finds out
  have hbad : ∀ k v, os[k]? = some v → (v ∉ N ∨ v ∈ os.take k) → false = r := fun k v hk h => by
    rw [← HRr.out]; symm
    rw [← Bool.not_eq_true]
    intro ht
    unfold ordA at ht
    rw [Bool.and_eq_true, decide_eq_true_eq] at ht
    have hNN : nodesA zs = Gr.nodesP (eds zs) := by unfold nodesA; rw [if_pos ht.1]
    obtain ⟨a1, a2, _⟩ := of_ord (Gr.nodesP_asc (okSet_eds ht.1)) ht.2
    rcases h with h | h
    · exact h (by rw [← hN, hNN]; exact a1 v (List.mem_of_getElem? hk))
    · have hkl := (List.getElem?_eq_some_iff.mp hk).1
      have hs : os.take (k + 1) = os.take k ++ [v] := by rw [List.take_add_one, hk]; rfl
      have h3 : (os.take (k + 1)).Nodup := a2.sublist (List.take_sublist _ _)
      rw [hs, List.nodup_append] at h3
      exact h3.2.2 v h v (by simp) rfl
  have hgood : (∀ v ∈ os, v ∈ N) → os.Nodup → (ok && decide (os.length = N.length)) = r := fun h1 h2 => by
    rw [← HRr.out]
    unfold ordA
    rw [HOK.out]
    cases ok with
    | false => rfl
    | true =>
      have hNN : N = Gr.nodesP (eds zs) := by rw [← hN]; unfold nodesA; rw [if_pos HOK.out]
      have hasc := Gr.nodesP_asc (okSet_eds HOK.out)
      rw [← hNN] at hasc ⊢
      simp only [Bool.true_and]
      by_cases hl : os.length = N.length
      · rw [decide_eq_true hl, decide_eq_true (ord_of hasc h1 h2 hl)]
      · rw [decide_eq_false hl, decide_eq_false (fun e => hl (of_ord hasc e).2.2)]
  have HBAD := Lib.hid hbad
  have HGOOD := Lib.hid hgood
  clear hbad hgood
  have B_0 := Lib.hid (Below.refl w.heap.size w)
  go_enter Tryz.func18, Tryz.ntmps18
  go_wp2_with fail
  refine (nodesOf_s A n c zs _ (HA.out.below B_0.out) hn).mono ?_
  rintro e w1 ⟨v1, rfl, ho, hb⟩
  rw [hN] at ho
  obtain ⟨A1, c1, rfl⟩ := ho.shape
  obtain ⟨nN, hnN⟩ : ∃ q, (ints N).length = q := ⟨_, rfl⟩
  rw [hnN] at ho ⊢
  have hnN2 : nN ≤ 4194304 := by rw [ints_len] at hnN; omega
  have HNN := Lib.hid (show N.length = nN by rw [ints_len] at hnN; exact hnN)
  have O_1 := Lib.hid ho.row
  have B_1 := Lib.hid (B_0.out.trans (hb.mono B_0.out.size))
  clear ho hb hnN hN B_0
  go_wp2
  go_loopw [6, 14] (fun sv i wr => ∃ k : Nat, k ≤ m ∧ i = .int .i64 k ∧ wr.ownsRow w1.heap.size 3 1 sv k (ints (os.take k)) ∧ Below w1.heap.size w1 wr ∧ (∀ v ∈ os.take k, v ∈ N) ∧ (os.take k).Nodup) (fun _ i _ => m - (intOf i).toNat)
  case atStart => exact ⟨0, Nat.zero_le _, rfl, by have h := whole_empty w1 3; exact h, (Below.refl _ _).alloc (Nat.le_refl _) _, by simp, by simp⟩
  case round =>
    obtain ⟨k, hk, rfl, hrow, hb, hin, hnd⟩ := hrel
    have B_2 := Lib.hid (B_1.out.trans (hb.mono B_1.out.size))
    have N_2 := Lib.hid (O_1.out.below hb (Nat.le_refl _))
    have HB := Lib.hid hb
    have HIN := Lib.hid hin
    have HND := Lib.hid hnd
    obtain ⟨As, cs, rfl⟩ := own_shape hrow
    have HR := Lib.hid hrow
    clear hb hin hnd hrow
    by_cases hlt : k < m
    · obtain ⟨g, o, rfl, hg, hc⟩ := (HU.out.below B_2.out (Nat.le_refl _)).at_ hlt
      have hkx : k < os.length := by have := HLU.out; omega
      rw [ints_get] at hc
      obtain ⟨x, hx⟩ : ∃ x, os[k] = x := ⟨_, rfl⟩
      rw [hx] at hc
      have HX := Lib.hid (show os[k]? = some x by rw [List.getElem?_eq_getElem hkx, hx])
      clear hx
      go_wp2_with fail
      refine (l07Has_f A1 nN c1 N x _ N_2.out hnN2).mono ?_
      rintro e w' ⟨rfl, hw⟩
      obtain rfl := hw.symm
      by_cases hxN : x ∈ N
      · have he : N.contains x = true := by simpa using hxN
        rw [he]
        clear he
        go_wp2_with fail
        refine (l07Has_f As k cs (os.take k) x _ (VRow.of_own HR.out) (by omega)).mono ?_
        rintro e w' ⟨rfl, hw⟩
        obtain rfl := hw.symm
        by_cases hxs : x ∈ os.take k
        · have he : (os.take k).contains x = true := by simpa using hxs
          rw [he]
          have HF := Lib.hid (HBAD.out k x HX.out (.inr hxs))
          clear he
          go_wp2
          go_ret
          exact ⟨ret_bool HF.out, B_2.out⟩
        · have he : (os.take k).contains x = false := by simpa using hxs
          rw [he]
          clear he
          have hts : os.take (k + 1) = os.take k ++ [x] := by rw [List.take_add_one, HX.out]; rfl
          have HIN2 := Lib.hid (show ∀ v ∈ os.take (k + 1), v ∈ N from fun v hv => by
            rw [hts] at hv
            rcases List.mem_append.mp hv with a | a
            · exact HIN.out v a
            · simp at a; subst a; exact hxN)
          have HND2 := Lib.hid (show (os.take (k + 1)).Nodup by rw [hts]; exact List.nodup_append.mpr ⟨HND.out, by simp, fun a ha b hb => by simp at hb; subst hb; exact fun e => hxs (e ▸ ha)⟩)
          have HTS := Lib.hid hts
          have HC1 := Lib.hid (cell_one_new wr (.int .i64 x) 3)
          have HOC3 := Lib.hid (ints_oneCell .i64 [x])
          have hsz := HB.out.size
          clear hts hxs hxN
          go_wp2_with (at_builtin; refine wpList_append_own _ rfl (.tmp 27) (.tmp 29) 25 rfl w1.heap.size 3 i0 _ 1 8 Tryz.underlying25 hi hz0 hz1 hz2 rfl (by decide) _ k _ rfl (HR.out.alloc _) ⟨wr.heap.size, 0, none⟩ 1 1 [.int .i64 x] rfl rfl HC1.out HOC3.out (by unfold maxLen; omega) (by omega) (by simp; omega) ?_)
          intro v4 w4 hown4 hgrow4 _
          have JB2 := Lib.hid ((HB.out.alloc hsz (.cells #[.int .i64 x] 3)).grown hgrow4 (by simp; omega) (fun q hq => (HR.out.lt q hq).1))
          have JR2 := Lib.hid (show w4.ownsRow w1.heap.size 3 1 v4 (k + 1) (ints (os.take (k + 1))) by rw [HTS.out]; simpa [ints] using hown4)
          clear hown4 hgrow4 HC1 HOC3
          go_wp2
          exact ⟨⟨k + 1, by omega, by go_num, JR2.out, JB2.out, HIN2.out, HND2.out⟩, by simp [intOf]; omega⟩
      · have he : N.contains x = false := by simpa using hxN
        rw [he]
        have HF := Lib.hid (HBAD.out k x HX.out (.inl hxN))
        clear he
        go_wp2
        go_ret
        exact ⟨ret_bool HF.out, B_2.out⟩
    · obtain rfl : k = m := by omega
      have hfull : os.take k = os := List.take_of_length_le (by have := HLU.out; omega)
      have HG := Lib.hid (show (ok && decide (k = nN)) = r by
        rw [← HLU.out, ← HNN.out]
        exact HGOOD.out (fun v hv => HIN.out v (by rw [hfull]; exact hv)) (by have := HND.out; rwa [hfull] at this))
      clear hfull
      go_wp2_with fail
      refine (isLinkSet_s A n c zs _ (HA.out.below B_2.out) hn).mono ?_
      rintro e w3 ⟨rfl, hb⟩
      rw [HOK.out]
      have B_3 := Lib.hid (B_2.out.trans (hb.mono B_2.out.size))
      clear hb
      cases ok with
      | false =>
        have HE := Lib.hid (show false = r by rw [← HG.out]; rfl)
        go_wp2
        go_ret
        exact ⟨ret_bool HE.out, B_3.out⟩
      | true =>
        have HE := Lib.hid (show decide (k = nN) = r by rw [← HG.out]; rfl)
        by_cases hkn : k = nN
        · have hb2 : ((k : Int) == (nN : Int)) = true := by simp [hkn]
          have HE2 := Lib.hid (show true = r by rw [← HE.out]; simp [hkn])
          go_wp2
          go_ret
          exact ⟨ret_bool HE2.out, B_3.out⟩
        · have hb2 : ((k : Int) == (nN : Int)) = false := by simp; omega
          have HE2 := Lib.hid (show false = r by rw [← HE.out]; simp [hkn])
          go_wp2
          go_ret
          exact ⟨ret_bool HE2.out, B_3.out⟩
end Go.Proofs.YtgmgdbnfmlmicaaGreat
