/- Poses: ParsePose of the program and of the model. Conditions: texts of at most 2^20 bytes; the listed variables of strconv hold what the program's text lays (the program's side). -/
import Derived.Test.YtdilgjakodimbaaDoorPoseParse
namespace Go.Proofs.YtdilgjakodimbaaDoor
open Go.RowKit Po Nu Jn Sp
set_option linter.unusedVariables false

namespace Po
section
variable {s a b d : ByteArray}
theorem isPT_parts (h : IsPT s) : ∃ t x y, ok t x y = true ∧ s = fmtP t x y ∧ parts s ⟨#[44]⟩ = [itoaB x, itoaB y, ltr t] := by
  obtain ⟨t, x, y, hk, rfl⟩ := h
  exact ⟨t, x, y, hk, rfl, fmtP_parts hk⟩
theorem no_len (h : (parts s ⟨#[44]⟩).length ≠ 3) : ¬ IsPT s := by
  intro hp
  obtain ⟨t, x, y, _, _, e⟩ := isPT_parts hp
  rw [e] at h
  exact h rfl
theorem num_ok {t x y : Int} (h : ok t x y = true) : IsNum (itoaB x) ∧ IsNum (itoaB y) := by
  obtain ⟨_, hx, hy⟩ := ok_iff.mp h
  exact ⟨⟨x, by omega, by omega, rfl⟩, ⟨y, by omega, by omega, rfl⟩⟩
theorem no_a (hp : parts s ⟨#[44]⟩ = [a, b, d]) (h : ¬ IsNum a) : ¬ IsPT s := by
  intro hq
  obtain ⟨t, x, y, hk, _, e⟩ := isPT_parts hq
  rw [hp] at e
  simp only [List.cons.injEq] at e
  exact h (e.1 ▸ (num_ok hk).1)
theorem no_b (hp : parts s ⟨#[44]⟩ = [a, b, d]) (h : ¬ IsNum b) : ¬ IsPT s := by
  intro hq
  obtain ⟨t, x, y, hk, _, e⟩ := isPT_parts hq
  rw [hp] at e
  simp only [List.cons.injEq] at e
  exact h (e.2.1 ▸ (num_ok hk).2)
theorem pt_of (hp : parts s ⟨#[44]⟩ = [a, b, d]) {x y : Int} (ha : a = itoaB x) (hb : b = itoaB y) (hx : -9223372036854775808 ≤ x ∧ x ≤ 9223372036854775807) (hy : -9223372036854775808 ≤ y ∧ y ≤ 9223372036854775807) (hq : IsPT s) : ∃ t, ok t x y = true ∧ s = fmtP t x y ∧ d = ltr t ∧ idxL d = t := by
  obtain ⟨t, x', y', hk, hs, e⟩ := isPT_parts hq
  rw [hp, ha, hb] at e
  simp only [List.cons.injEq, and_true] at e
  obtain ⟨⟨ht0, ht1⟩, hx', hy'⟩ := ok_iff.mp hk
  have e1 := itoaB_inj _ _ hx.1 hx.2 (by omega) (by omega) e.1
  have e2 := itoaB_inj _ _ hy.1 hy.2 (by omega) (by omega) e.2.1
  subst e1 e2
  exact ⟨t, hk, hs, e.2.2, by rw [e.2.2]; exact idxL_ltr ht0 ht1⟩
theorem no_ok (hp : parts s ⟨#[44]⟩ = [a, b, d]) {x y : Int} (ha : a = itoaB x) (hb : b = itoaB y) (hx : -9223372036854775808 ≤ x ∧ x ≤ 9223372036854775807) (hy : -9223372036854775808 ≤ y ∧ y ≤ 9223372036854775807) (h : ok (idxL d) x y = false) : ¬ IsPT s := by
  intro hq
  obtain ⟨t, hk, _, _, e⟩ := pt_of hp ha hb hx hy hq
  rw [e, hk] at h
  exact absurd h (by decide)
theorem yes_ok (hp : parts s ⟨#[44]⟩ = [a, b, d]) {x y : Int} (ha : a = itoaB x) (hb : b = itoaB y) (h : ok (idxL d) x y = true) : s = fmtP (idxL d) x y := by
  have e := parts_back hp
  have hd := ltr_idxL (c := d) (ok_iff.mp h).1.1
  rw [fmtP_yes h, ← ha, ← hb, ← hd]
  exact e
theorem three_sizes (hp : parts s ⟨#[44]⟩ = [a, b, d]) : a.size ≤ s.size ∧ b.size ≤ s.size ∧ d.size ≤ s.size := by
  have e := congrArg ByteArray.size (parts_back hp)
  simp only [ByteArray.size_append] at e
  omega
end
end Po
theorem list3 {α : Type} {l : List α} (h : l.length = 3) : ∃ a b c, l = [a, b, c] := by
  match l, h with
  | [a, b, c], _ => exact ⟨a, b, c, rfl⟩
set_option maxRecDepth 100000 in
set_option maxHeartbeats 4000000 in
theorem parsePose_impl (s : ByteArray) (w : World) (hs : s.size ≤ 1048576) (hl : Laid3 w) : Calls Tryd.prog 13 #[.string s] w (ParsedP s w) := by
  have HL := Lib.hid hl
  clear hl
  have HB0 := Lib.hid ((Below.refl w.heap.size w).alloc (Nat.le_refl _) (.cells #[.int .i64 0, .int .i64 0, .int .i64 0] 24))
  have K0 := Lib.hid (HeldL.new w [.int .i64 0, .int .i64 0, .int .i64 0] 24)
  go_enter Tryd.func13, Tryd.ntmps13
  go_wp2_with fail
  refine (splitAny_impl s ⟨#[44]⟩ _ hs (by show 1 ≤ _; omega)).mono ?_
  rintro e w1 ⟨v1, rfl, ho, hb⟩
  have HB1 := Lib.hid (HB0.out.trans (hb.mono HB0.out.size))
  have K1 := Lib.hid (K0.out.after hb)
  clear hb HB0 K0
  have hml := parts_len s ⟨#[44]⟩
  obtain ⟨m, hm⟩ : ∃ m, (parts s ⟨#[44]⟩).length = m := ⟨_, rfl⟩
  rw [hm] at ho hml
  obtain ⟨A, c, rfl⟩ := own_shape ho
  have HV := Lib.hid (VRow.of_own ho)
  clear ho
  by_cases h3 : m = 3
  · subst h3
    obtain ⟨a, b, d, hps⟩ := list3 hm
    have hsz := three_sizes hps
    have hV := HV.out
    rw [hps] at hV
    obtain ⟨g, o, rfl, hg, hc⟩ := hV.2 (by omega)
    have c0 : w1.cell? ⟨g, o, none⟩ = some (.string a) := hc 0 (by omega)
    have c1 : w1.cell? ⟨g, o + 1, none⟩ = some (.string b) := hc 1 (by omega)
    have c2 : w1.cell? ⟨g, o + 2, none⟩ = some (.string d) := hc 2 (by omega)
    have HP := Lib.hid hps
    have HG := Lib.hid hg
    have HC1 := Lib.hid c1
    have HC2 := Lib.hid c2
    clear hV hc hps c1 c2 HV hm
    go_wp2_with fail
    clear c0
    refine ((parseInt_impl a _ (by omega) (HL.out.below HB1.out)).mono (fun e w' h => parsed_pi h)).mono ?_
    rintro e w2 ⟨x, kx, rfl, hpx, hb⟩
    have HPX := Lib.hid hpx
    have HB2 := Lib.hid (HB1.out.trans (hb.mono HB1.out.size))
    have K2 := Lib.hid (K1.out.after hb)
    have hg2 := Nat.lt_of_lt_of_le hg hb.size
    have c1 := (hb.cell (p := ⟨g, o + 1, none⟩) hg).trans HC1.out
    have HD2 := Lib.hid ((hb.cell (p := ⟨g, o + 2, none⟩) hg).trans HC2.out)
    clear hb hpx HB1 K1 HC1 HC2
    go_wp2_with fail
    clear c1
    refine ((parseInt_impl b _ (by omega) (HL.out.below HB2.out)).mono (fun e w' h => parsed_pi h)).mono ?_
    rintro e w3 ⟨y, ky, rfl, hpy, hb⟩
    have HPY := Lib.hid hpy
    have HB3 := Lib.hid (HB2.out.trans (hb.mono HB2.out.size))
    have K3 := Lib.hid (K2.out.after hb)
    have c2 := (hb.cell (p := ⟨g, o + 2, none⟩) hg2).trans HD2.out
    clear hb hpy HB2 K2 HD2 hg2
    go_wp2_with fail
    clear c2
    refine (turnOfLetter_any d _ (by omega)).mono ?_
    rintro e w4 ⟨rfl, hw⟩
    obtain rfl := hw.symm
    clear hw
    obtain ⟨k, hk⟩ : ∃ k, idxL d = k := ⟨_, rfl⟩
    have HK := Lib.hid hk
    rw [hk]
    clear hk
    cases kx with
    | false =>
      have HN := Lib.hid (show ¬ IsPT s by
        rcases HPX.out with ⟨h, _⟩ | ⟨_, _, h⟩
        · exact absurd h (by decide)
        · exact no_a HP.out h)
      have r0 := K3.out.cell 0 _ rfl
      have r1 := K3.out.cell 1 _ rfl
      have r2 := K3.out.cell 2 _ rfl
      have f0 := K3.out.froz 0 _ rfl
      have f1 := K3.out.froz 1 _ rfl
      have f2 := K3.out.froz 2 _ rfl
      have hlr := K3.out.lt
      go_wp2
      have T := ((HB3.out.setCell (p := ⟨w.heap.size, 0, none⟩) (Nat.le_refl _) (.int .i64 0)).setCell (p := ⟨w.heap.size, 1, none⟩) (Nat.le_refl _) (.int .i64 0)).setCell (p := ⟨w.heap.size, 2, none⟩) (Nat.le_refl _) (.int .i64 0)
      exact bodyPost_ret (v := .tuple #[.agg #[.int .i64 0, .int .i64 0, .int .i64 0], .bool false]) (by simp [results, Tryd.results13, go_sem, r0, r1, r2, hlr]) rfl ⟨.inr ⟨HN.out, rfl⟩, T.alloc T.size _⟩
    | true =>
      cases ky with
      | false =>
        have HN := Lib.hid (show ¬ IsPT s by
          rcases HPY.out with ⟨h, _⟩ | ⟨_, _, h⟩
          · exact absurd h (by decide)
          · exact no_b HP.out h)
        have r0 := K3.out.cell 0 _ rfl
        have r1 := K3.out.cell 1 _ rfl
        have r2 := K3.out.cell 2 _ rfl
        have f0 := K3.out.froz 0 _ rfl
        have f1 := K3.out.froz 1 _ rfl
        have f2 := K3.out.froz 2 _ rfl
        have hlr := K3.out.lt
        go_wp2
        have T := ((HB3.out.setCell (p := ⟨w.heap.size, 0, none⟩) (Nat.le_refl _) (.int .i64 0)).setCell (p := ⟨w.heap.size, 1, none⟩) (Nat.le_refl _) (.int .i64 0)).setCell (p := ⟨w.heap.size, 2, none⟩) (Nat.le_refl _) (.int .i64 0)
        exact bodyPost_ret (v := .tuple #[.agg #[.int .i64 0, .int .i64 0, .int .i64 0], .bool false]) (by simp [results, Tryd.results13, go_sem, r0, r1, r2, hlr]) rfl ⟨.inr ⟨HN.out, rfl⟩, T.alloc T.size _⟩
      | true =>
        have hX : a = itoaB x ∧ -9223372036854775808 ≤ x ∧ x ≤ 9223372036854775807 := by
          rcases HPX.out with ⟨_, h⟩ | ⟨h, _⟩
          · exact h
          · exact absurd h (by decide)
        have hY : b = itoaB y ∧ -9223372036854775808 ≤ y ∧ y ≤ 9223372036854775807 := by
          rcases HPY.out with ⟨_, h⟩ | ⟨h, _⟩
          · exact h
          · exact absurd h (by decide)
        have HX := Lib.hid hX
        have HY := Lib.hid hY
        clear hX hY HPX HPY
        go_wp2_with fail
        have HB4 := Lib.hid (HB3.out.alloc HB3.out.size (.cells #[.int .i64 k, .int .i64 x, .int .i64 y] 24))
        have K4 := Lib.hid (K3.out.alloc (.cells #[.int .i64 k, .int .i64 x, .int .i64 y] 24))
        have KP := Lib.hid (HeldL.new w3 [.int .i64 k, .int .i64 x, .int .i64 y] 24)
        have HLT := Lib.hid K3.out.lt
        clear HB3 K3
        refine (validP_impl k x y _).mono ?_
        rintro e w5 ⟨rfl, hb⟩
        have HB5 := Lib.hid (HB4.out.trans (hb.mono HB4.out.size))
        have K5 := Lib.hid (K4.out.after hb)
        have KP5 := Lib.hid (KP.out.after hb)
        clear hb HB4 K4 KP
        by_cases hok : ok k x y = true
        · rw [hok]
          have HS := Lib.hid (show s = fmtP k x y by rw [← HK.out]; exact yes_ok HP.out HX.out.1 HY.out.1 (by rw [HK.out]; exact hok))
          have HO := Lib.hid hok
          clear hok
          have p0 := KP5.out.cell 0 _ rfl
          have p1 := KP5.out.cell 1 _ rfl
          have p2 := KP5.out.cell 2 _ rfl
          have hne : w.heap.size ≠ w3.heap.size := by have := HLT.out; omega
          have r0 := K5.out.cell 0 _ rfl
          have r1 := K5.out.cell 1 _ rfl
          have r2 := K5.out.cell 2 _ rfl
          have f0 := K5.out.froz 0 _ rfl
          have f1 := K5.out.froz 1 _ rfl
          have f2 := K5.out.froz 2 _ rfl
          go_wp2
          exact bodyPost_ret (v := .tuple #[.agg #[.int .i64 k, .int .i64 x, .int .i64 y], .bool true]) (by simp [results, Tryd.results13, go_sem, r0, r1, r2]) rfl ⟨.inl ⟨k, x, y, HO.out, HS.out, rfl⟩, ((HB5.out.setCell (Nat.le_refl _) _).setCell (Nat.le_refl _) _).setCell (Nat.le_refl _) _⟩
        · rw [Bool.not_eq_true] at hok
          rw [hok]
          have HN := Lib.hid (no_ok HP.out HX.out.1 HY.out.1 HX.out.2 HY.out.2 (by rw [HK.out]; exact hok))
          clear hok
          have r0 := K5.out.cell 0 _ rfl
          have r1 := K5.out.cell 1 _ rfl
          have r2 := K5.out.cell 2 _ rfl
          have f0 := K5.out.froz 0 _ rfl
          have f1 := K5.out.froz 1 _ rfl
          have f2 := K5.out.froz 2 _ rfl
          go_wp2
          have T := ((HB5.out.setCell (p := ⟨w.heap.size, 0, none⟩) (Nat.le_refl _) (.int .i64 0)).setCell (p := ⟨w.heap.size, 1, none⟩) (Nat.le_refl _) (.int .i64 0)).setCell (p := ⟨w.heap.size, 2, none⟩) (Nat.le_refl _) (.int .i64 0)
          exact bodyPost_ret (v := .tuple #[.agg #[.int .i64 0, .int .i64 0, .int .i64 0], .bool false]) (by simp [results, Tryd.results13, go_sem, r0, r1, r2]) rfl ⟨.inr ⟨HN.out, rfl⟩, T⟩
  · have HN := Lib.hid (no_len (s := s) (by rw [hm]; exact h3))
    have h3' : ¬ ((m : Int) = 3) := by omega
    clear hm h3 HV
    have r0 := K1.out.cell 0 _ rfl
    have r1 := K1.out.cell 1 _ rfl
    have r2 := K1.out.cell 2 _ rfl
    have f0 := K1.out.froz 0 _ rfl
    have f1 := K1.out.froz 1 _ rfl
    have f2 := K1.out.froz 2 _ rfl
    go_wp2
    have T := ((HB1.out.setCell (p := ⟨w.heap.size, 0, none⟩) (Nat.le_refl _) (.int .i64 0)).setCell (p := ⟨w.heap.size, 1, none⟩) (Nat.le_refl _) (.int .i64 0)).setCell (p := ⟨w.heap.size, 2, none⟩) (Nat.le_refl _) (.int .i64 0)
    exact bodyPost_ret (v := .tuple #[.agg #[.int .i64 0, .int .i64 0, .int .i64 0], .bool false]) (by simp [results, Tryd.results13, go_sem, r0, r1, r2]) rfl ⟨.inr ⟨HN.out, rfl⟩, T⟩
theorem toList_ne {s : ByteArray} (h : s ≠ ⟨#[]⟩) : s.toList.isEmpty = false := by
  rw [ByteArray.toList_eq]
  cases hl : s.data.toList with
  | nil => exact absurd (bytes_ext (by rw [hl])) h
  | cons a r => rfl
theorem fmtP_nz {t x y : Int} (h : ok t x y = true) : fmtP t x y ≠ ⟨#[]⟩ := by
  intro e
  have := congrArg ByteArray.size e
  rw [fmtP_yes h] at this
  simp only [ByteArray.size_append, ltr_size] at this
  exact absurd this (by show _ ≠ (0 : Nat); omega)
theorem ok_turn {t u x y : Int} (h0 : 0 ≤ t) (h1 : t ≤ 3) (k0 : 0 ≤ u) (k1 : u ≤ 3) (h : ok t x y = false) : ok u x y = false := by
  apply ok_no
  intro hk
  rw [ok_yes ⟨⟨h0, h1⟩, hk.2⟩] at h
  exact absurd h (by decide)
theorem yes_all {s a b d : ByteArray} {x y : Int} {kx ky : Bool} (hp : parts s ⟨#[44]⟩ = [a, b, d]) (hx : PI a x kx) (hy : PI b y ky) (hq : IsPT s) : ∃ t, ok t x y = true ∧ s = fmtP t x y ∧ d = ltr t ∧ idxL d = t := by
  rcases hx with ⟨_, ha, hax⟩ | ⟨_, _, hno⟩
  · rcases hy with ⟨_, hb, hby⟩ | ⟨_, _, hno⟩
    · exact pt_of hp ha hb hax hby hq
    · exact absurd hq (no_b hp hno)
  · exact absurd hq (no_a hp hno)
set_option maxRecDepth 100000 in
set_option maxHeartbeats 4000000 in
theorem parsePose_spec (s : ByteArray) (w : World) (hs : s.size ≤ 1048576) : Calls Tryd.prog 36 #[.string s] w (ParsedP s w) := by
  have HB0 := Lib.hid ((Below.refl w.heap.size w).alloc (Nat.le_refl _) (.cells #[.int .i64 0, .int .i64 0, .int .i64 0] 24))
  have K0 := Lib.hid (HeldL.new w [.int .i64 0, .int .i64 0, .int .i64 0] 24)
  go_enter Tryd.func36, Tryd.ntmps36
  go_wp2_with fail
  refine (splitAny_spec s ⟨#[44]⟩ _ hs (by show 1 ≤ _; omega)).mono ?_
  rintro e w1 ⟨v1, rfl, ho, hb⟩
  have HB1 := Lib.hid (HB0.out.trans (hb.mono HB0.out.size))
  have K1 := Lib.hid (K0.out.after hb)
  clear hb HB0 K0
  have hml := parts_len s ⟨#[44]⟩
  obtain ⟨m, hm⟩ : ∃ m, (parts s ⟨#[44]⟩).length = m := ⟨_, rfl⟩
  rw [hm] at ho hml
  obtain ⟨A, c, rfl⟩ := own_shape ho
  have HV := Lib.hid (VRow.of_own ho)
  clear ho
  by_cases h3 : m = 3
  · subst h3
    obtain ⟨a, b, d, hps⟩ := list3 hm
    have hsz := three_sizes hps
    have hV := HV.out
    rw [hps] at hV
    obtain ⟨g, o, rfl, hg, hc⟩ := hV.2 (by omega)
    have c0 : w1.cell? ⟨g, o, none⟩ = some (.string a) := hc 0 (by omega)
    have c1 : w1.cell? ⟨g, o + 1, none⟩ = some (.string b) := hc 1 (by omega)
    have c2 : w1.cell? ⟨g, o + 2, none⟩ = some (.string d) := hc 2 (by omega)
    have HP := Lib.hid hps
    have HG := Lib.hid hg
    have HC1 := Lib.hid c1
    have HC2 := Lib.hid c2
    clear hV hc hps c1 c2 HV hm
    have hgp : g ≠ w1.heap.size := by omega
    have hgq : w1.heap.size ≠ g := by omega
    go_wp2_with fail
    clear c0
    have HBA := Lib.hid (HB1.out.alloc HB1.out.size (.cells #[.int .i64 0, .int .i64 0, .int .i64 0] 24))
    have KA := Lib.hid (K1.out.alloc (.cells #[.int .i64 0, .int .i64 0, .int .i64 0] 24))
    have PA := Lib.hid (HeldL.new w1 [.int .i64 0, .int .i64 0, .int .i64 0] 24)
    have HNE := Lib.hid (show w.heap.size ≠ w1.heap.size by have := K1.out.lt; omega)
    have HGE := Lib.hid HB1.out.size
    clear HB1 K1
    refine ((parseInt_spec a _ (by omega)).mono (fun e w' h => parsed_pi h)).mono ?_
    rintro e w2 ⟨x, kx, rfl, hpx, hb⟩
    have HPX := Lib.hid hpx
    have HB2 := Lib.hid (HBA.out.trans (hb.mono HBA.out.size))
    have K2 := Lib.hid (KA.out.after hb)
    have P2 := Lib.hid (PA.out.after hb)
    have hga : g < (w1.alloc (.cells #[.int .i64 0, .int .i64 0, .int .i64 0] 24)).heap.size := by simp; omega
    have c1 := (hb.cell (p := ⟨g, o + 1, none⟩) hga).trans ((World.cell?_alloc_lt w1 (.cells #[.int .i64 0, .int .i64 0, .int .i64 0] 24) ⟨g, o + 1, none⟩ hg).trans HC1.out)
    have HD2 := Lib.hid ((hb.cell (p := ⟨g, o + 2, none⟩) hga).trans ((World.cell?_alloc_lt w1 (.cells #[.int .i64 0, .int .i64 0, .int .i64 0] 24) ⟨g, o + 2, none⟩ hg).trans HC2.out))
    clear hb hpx HBA KA PA HC1 HC2 hga
    have p1 := P2.out.cell 1 _ rfl
    have q1 := P2.out.froz 1 _ rfl
    go_wp2_with fail
    clear c1 p1 q1
    have HB2s := Lib.hid (HB2.out.setCell (p := ⟨w1.heap.size, 1, none⟩) HGE.out (.int .i64 x))
    have K2s := Lib.hid (K2.out.setOther (p := ⟨w1.heap.size, 1, none⟩) HNE.out (.int .i64 x))
    have P2s := Lib.hid (P2.out.set 1 (.int .i64 x) _ rfl)
    clear HB2 K2 P2
    refine ((parseInt_spec b _ (by omega)).mono (fun e w' h => parsed_pi h)).mono ?_
    rintro e w3 ⟨y, ky, rfl, hpy, hb⟩
    have HPY := Lib.hid hpy
    have HB3 := Lib.hid (HB2s.out.trans (hb.mono HB2s.out.size))
    have K3 := Lib.hid (K2s.out.after hb)
    have P3 := Lib.hid (P2s.out.after hb)
    clear hb hpy HB2s K2s P2s HD2
    have p0 := P3.out.cell 0 _ rfl
    have q0 := P3.out.froz 0 _ rfl
    have p2 := P3.out.cell 2 _ rfl
    have q2 := P3.out.froz 2 _ rfl
    go_wp2
    clear p0 q0 p2 q2 hgp hgq
    have HBu := Lib.hid ((HB3.out.setCell (p := ⟨w1.heap.size, 2, none⟩) HGE.out (.int .i64 y)).setCell (p := ⟨w1.heap.size, 0, none⟩) HGE.out (.int .i64 0))
    have Ku := Lib.hid ((K3.out.setOther (p := ⟨w1.heap.size, 2, none⟩) HNE.out (.int .i64 y)).setOther (p := ⟨w1.heap.size, 0, none⟩) HNE.out (.int .i64 0))
    have Pu : Hid (HeldL ((w3.setCell ⟨w1.heap.size, 2, none⟩ (.int .i64 y)).setCell ⟨w1.heap.size, 0, none⟩ (.int .i64 0)) w1.heap.size [.int .i64 0, .int .i64 x, .int .i64 y]) := ((P3.out.set 2 (.int .i64 y) _ rfl).set 0 (.int .i64 0) _ rfl)
    clear HB3 K3 P3
    obtain ⟨u0, hu0⟩ : ∃ u, (w3.setCell ⟨w1.heap.size, 2, none⟩ (.int .i64 y)).setCell ⟨w1.heap.size, 0, none⟩ (.int .i64 0) = u := ⟨_, rfl⟩
    rw [hu0] at HBu Ku Pu ⊢
    clear hu0
    obtain ⟨F0, e0⟩ : ∃ z, fmtP 0 x y = z := ⟨_, rfl⟩
    obtain ⟨F1, e1⟩ : ∃ z, fmtP 1 x y = z := ⟨_, rfl⟩
    obtain ⟨F2, e2⟩ : ∃ z, fmtP 2 x y = z := ⟨_, rfl⟩
    obtain ⟨F3, e3⟩ : ∃ z, fmtP 3 x y = z := ⟨_, rfl⟩
    have E0 := Lib.hid e0
    have E1 := Lib.hid e1
    have E2 := Lib.hid e2
    have E3 := Lib.hid e3
    by_cases hq : IsPT s
    · obtain ⟨t, hok, hst, _, _⟩ := yes_all HP.out HPX.out HPY.out hq
      obtain ⟨⟨ht0, ht1⟩, hx, hy⟩ := ok_iff.mp hok
      have HNZ0 := Lib.hid (e0 ▸ fmtP_nz (ok_yes ⟨⟨by omega, by omega⟩, hx, hy⟩) : F0 ≠ ⟨#[]⟩)
      have HNZ1 := Lib.hid (e1 ▸ fmtP_nz (ok_yes ⟨⟨by omega, by omega⟩, hx, hy⟩) : F1 ≠ ⟨#[]⟩)
      have HNZ2 := Lib.hid (e2 ▸ fmtP_nz (ok_yes ⟨⟨by omega, by omega⟩, hx, hy⟩) : F2 ≠ ⟨#[]⟩)
      have HNZ3 := Lib.hid (e3 ▸ fmtP_nz (ok_yes ⟨⟨by omega, by omega⟩, hx, hy⟩) : F3 ≠ ⟨#[]⟩)
      rcases four ht0 ht1 with rfl | rfl | rfl | rfl
      · have HOK := Lib.hid hok
        have HS := Lib.hid hst
        obtain rfl : s = F0 := hst.trans e0
        clear hok hst e0 e1 e2 e3 hq hx hy ht0 ht1
        have n0a := str_ne s ⟨#[]⟩ HNZ0.out
        obtain ⟨n0b, n0c⟩ := n0a
        have n0d : s.toList.isEmpty = false := toList_ne HNZ0.out
        refine wp_loop_rounds 6 ?_
        rw [rounds_succ]
        have p0 := Pu.out.cell 0 _ rfl
        have p1 := Pu.out.cell 1 _ rfl
        have p2 := Pu.out.cell 2 _ rfl
        go_wp2_with fail
        clear p0 p1 p2
        refine (formatPose_spec 0 x y _).mono ?_
        rintro e v1 ⟨rfl, hb⟩
        rw [E0.out]
        have HB_1 := Lib.hid (HBu.out.trans (hb.mono HBu.out.size))
        have K_1 := Lib.hid (Ku.out.after hb)
        have P_1 := Lib.hid (Pu.out.after hb)
        clear hb HBu Ku Pu
        have p0 := P_1.out.cell 0 _ rfl
        have p1 := P_1.out.cell 1 _ rfl
        have p2 := P_1.out.cell 2 _ rfl
        go_wp2_with fail
        clear p0 p1 p2
        refine (formatPose_spec 0 x y _).mono ?_
        rintro e v2 ⟨rfl, hb⟩
        rw [E0.out]
        have HB_2 := Lib.hid (HB_1.out.trans (hb.mono HB_1.out.size))
        have K_2 := Lib.hid (K_1.out.after hb)
        have P_2 := Lib.hid (P_1.out.after hb)
        clear hb HB_1 K_1 P_1
        have p0 := P_2.out.cell 0 _ rfl
        have p1 := P_2.out.cell 1 _ rfl
        have p2 := P_2.out.cell 2 _ rfl
        have r0 := K_2.out.cell 0 _ rfl
        have r1 := K_2.out.cell 1 _ rfl
        have r2 := K_2.out.cell 2 _ rfl
        have f0 := K_2.out.froz 0 _ rfl
        have f1 := K_2.out.froz 1 _ rfl
        have f2 := K_2.out.froz 2 _ rfl
        have hnp := HNE.out
        have hnq := HNE.out.symm
        go_wp2
        exact bodyPost_ret (v := .tuple #[.agg #[.int .i64 0, .int .i64 x, .int .i64 y], .bool true]) (by simp [results, Tryd.results36, go_sem, r0, r1, r2]) rfl ⟨.inl ⟨0, x, y, HOK.out, HS.out, rfl⟩, ((HB_2.out.setCell (Nat.le_refl _) _).setCell (Nat.le_refl _) _).setCell (Nat.le_refl _) _⟩
      · have HOK := Lib.hid hok
        have HS := Lib.hid hst
        have HNS0 := Lib.hid (show F0 ≠ s by rw [← e0, hst]; intro h; have := (fmtP_inj (ok_yes ⟨⟨by omega, by omega⟩, hx, hy⟩) hok h).1; omega)
        obtain rfl : s = F1 := hst.trans e1
        clear hok hst e0 e1 e2 e3 hq hx hy ht0 ht1
        have n0a := str_ne F0 ⟨#[]⟩ HNZ0.out
        obtain ⟨n0b, n0c⟩ := n0a
        have n0d : F0.toList.isEmpty = false := toList_ne HNZ0.out
        have n1a := str_ne s ⟨#[]⟩ HNZ1.out
        obtain ⟨n1b, n1c⟩ := n1a
        have n1d : s.toList.isEmpty = false := toList_ne HNZ1.out
        have m0a := str_ne F0 s HNS0.out
        obtain ⟨m0b, m0c⟩ := m0a
        refine wp_loop_rounds 6 ?_
        rw [rounds_succ]
        have p0 := Pu.out.cell 0 _ rfl
        have p1 := Pu.out.cell 1 _ rfl
        have p2 := Pu.out.cell 2 _ rfl
        go_wp2_with fail
        clear p0 p1 p2
        refine (formatPose_spec 0 x y _).mono ?_
        rintro e v1 ⟨rfl, hb⟩
        rw [E0.out]
        have HB_1 := Lib.hid (HBu.out.trans (hb.mono HBu.out.size))
        have K_1 := Lib.hid (Ku.out.after hb)
        have P_1 := Lib.hid (Pu.out.after hb)
        clear hb HBu Ku Pu
        have p0 := P_1.out.cell 0 _ rfl
        have p1 := P_1.out.cell 1 _ rfl
        have p2 := P_1.out.cell 2 _ rfl
        go_wp2_with fail
        clear p0 p1 p2
        refine (formatPose_spec 0 x y _).mono ?_
        rintro e v2 ⟨rfl, hb⟩
        rw [E0.out]
        have HB_2 := Lib.hid (HB_1.out.trans (hb.mono HB_1.out.size))
        have K_2 := Lib.hid (K_1.out.after hb)
        have P_2 := Lib.hid (P_1.out.after hb)
        clear hb HB_1 K_1 P_1
        have p0 := P_2.out.cell 0 _ rfl
        have p1 := P_2.out.cell 1 _ rfl
        have p2 := P_2.out.cell 2 _ rfl
        have q0 := P_2.out.froz 0 _ rfl
        go_wp2
        clear p0 p1 p2 q0
        have HBs := Lib.hid (HB_2.out.setCell (p := ⟨w1.heap.size, 0, none⟩) HGE.out (.int .i64 1))
        have Ks := Lib.hid (K_2.out.setOther (p := ⟨w1.heap.size, 0, none⟩) HNE.out (.int .i64 1))
        have Ps : Hid (HeldL (v2.setCell ⟨w1.heap.size, 0, none⟩ (.int .i64 1)) w1.heap.size [.int .i64 1, .int .i64 x, .int .i64 y]) := (P_2.out.set 0 (.int .i64 1) _ rfl)
        obtain ⟨u1, hu⟩ : ∃ u, v2.setCell ⟨w1.heap.size, 0, none⟩ (.int .i64 1) = u := ⟨_, rfl⟩
        rw [hu] at HBs Ks Ps ⊢
        clear hu HB_2 K_2 P_2
        have HBu := Lib.hid HBs.out
        have Ku := Lib.hid Ks.out
        have Pu := Lib.hid Ps.out
        clear HBs Ks Ps
        rw [rounds_succ]
        have p0 := Pu.out.cell 0 _ rfl
        have p1 := Pu.out.cell 1 _ rfl
        have p2 := Pu.out.cell 2 _ rfl
        go_wp2_with fail
        clear p0 p1 p2
        refine (formatPose_spec 1 x y _).mono ?_
        rintro e v3 ⟨rfl, hb⟩
        rw [E1.out]
        have HB_3 := Lib.hid (HBu.out.trans (hb.mono HBu.out.size))
        have K_3 := Lib.hid (Ku.out.after hb)
        have P_3 := Lib.hid (Pu.out.after hb)
        clear hb HBu Ku Pu
        have p0 := P_3.out.cell 0 _ rfl
        have p1 := P_3.out.cell 1 _ rfl
        have p2 := P_3.out.cell 2 _ rfl
        go_wp2_with fail
        clear p0 p1 p2
        refine (formatPose_spec 1 x y _).mono ?_
        rintro e v4 ⟨rfl, hb⟩
        rw [E1.out]
        have HB_4 := Lib.hid (HB_3.out.trans (hb.mono HB_3.out.size))
        have K_4 := Lib.hid (K_3.out.after hb)
        have P_4 := Lib.hid (P_3.out.after hb)
        clear hb HB_3 K_3 P_3
        have p0 := P_4.out.cell 0 _ rfl
        have p1 := P_4.out.cell 1 _ rfl
        have p2 := P_4.out.cell 2 _ rfl
        have r0 := K_4.out.cell 0 _ rfl
        have r1 := K_4.out.cell 1 _ rfl
        have r2 := K_4.out.cell 2 _ rfl
        have f0 := K_4.out.froz 0 _ rfl
        have f1 := K_4.out.froz 1 _ rfl
        have f2 := K_4.out.froz 2 _ rfl
        have hnp := HNE.out
        have hnq := HNE.out.symm
        go_wp2
        exact bodyPost_ret (v := .tuple #[.agg #[.int .i64 1, .int .i64 x, .int .i64 y], .bool true]) (by simp [results, Tryd.results36, go_sem, r0, r1, r2]) rfl ⟨.inl ⟨1, x, y, HOK.out, HS.out, rfl⟩, ((HB_4.out.setCell (Nat.le_refl _) _).setCell (Nat.le_refl _) _).setCell (Nat.le_refl _) _⟩
      · have HOK := Lib.hid hok
        have HS := Lib.hid hst
        have HNS0 := Lib.hid (show F0 ≠ s by rw [← e0, hst]; intro h; have := (fmtP_inj (ok_yes ⟨⟨by omega, by omega⟩, hx, hy⟩) hok h).1; omega)
        have HNS1 := Lib.hid (show F1 ≠ s by rw [← e1, hst]; intro h; have := (fmtP_inj (ok_yes ⟨⟨by omega, by omega⟩, hx, hy⟩) hok h).1; omega)
        obtain rfl : s = F2 := hst.trans e2
        clear hok hst e0 e1 e2 e3 hq hx hy ht0 ht1
        have n0a := str_ne F0 ⟨#[]⟩ HNZ0.out
        obtain ⟨n0b, n0c⟩ := n0a
        have n0d : F0.toList.isEmpty = false := toList_ne HNZ0.out
        have n1a := str_ne F1 ⟨#[]⟩ HNZ1.out
        obtain ⟨n1b, n1c⟩ := n1a
        have n1d : F1.toList.isEmpty = false := toList_ne HNZ1.out
        have n2a := str_ne s ⟨#[]⟩ HNZ2.out
        obtain ⟨n2b, n2c⟩ := n2a
        have n2d : s.toList.isEmpty = false := toList_ne HNZ2.out
        have m0a := str_ne F0 s HNS0.out
        obtain ⟨m0b, m0c⟩ := m0a
        have m1a := str_ne F1 s HNS1.out
        obtain ⟨m1b, m1c⟩ := m1a
        refine wp_loop_rounds 6 ?_
        rw [rounds_succ]
        have p0 := Pu.out.cell 0 _ rfl
        have p1 := Pu.out.cell 1 _ rfl
        have p2 := Pu.out.cell 2 _ rfl
        go_wp2_with fail
        clear p0 p1 p2
        refine (formatPose_spec 0 x y _).mono ?_
        rintro e v1 ⟨rfl, hb⟩
        rw [E0.out]
        have HB_1 := Lib.hid (HBu.out.trans (hb.mono HBu.out.size))
        have K_1 := Lib.hid (Ku.out.after hb)
        have P_1 := Lib.hid (Pu.out.after hb)
        clear hb HBu Ku Pu
        have p0 := P_1.out.cell 0 _ rfl
        have p1 := P_1.out.cell 1 _ rfl
        have p2 := P_1.out.cell 2 _ rfl
        go_wp2_with fail
        clear p0 p1 p2
        refine (formatPose_spec 0 x y _).mono ?_
        rintro e v2 ⟨rfl, hb⟩
        rw [E0.out]
        have HB_2 := Lib.hid (HB_1.out.trans (hb.mono HB_1.out.size))
        have K_2 := Lib.hid (K_1.out.after hb)
        have P_2 := Lib.hid (P_1.out.after hb)
        clear hb HB_1 K_1 P_1
        have p0 := P_2.out.cell 0 _ rfl
        have p1 := P_2.out.cell 1 _ rfl
        have p2 := P_2.out.cell 2 _ rfl
        have q0 := P_2.out.froz 0 _ rfl
        go_wp2
        clear p0 p1 p2 q0
        have HBs := Lib.hid (HB_2.out.setCell (p := ⟨w1.heap.size, 0, none⟩) HGE.out (.int .i64 1))
        have Ks := Lib.hid (K_2.out.setOther (p := ⟨w1.heap.size, 0, none⟩) HNE.out (.int .i64 1))
        have Ps : Hid (HeldL (v2.setCell ⟨w1.heap.size, 0, none⟩ (.int .i64 1)) w1.heap.size [.int .i64 1, .int .i64 x, .int .i64 y]) := (P_2.out.set 0 (.int .i64 1) _ rfl)
        obtain ⟨u1, hu⟩ : ∃ u, v2.setCell ⟨w1.heap.size, 0, none⟩ (.int .i64 1) = u := ⟨_, rfl⟩
        rw [hu] at HBs Ks Ps ⊢
        clear hu HB_2 K_2 P_2
        have HBu := Lib.hid HBs.out
        have Ku := Lib.hid Ks.out
        have Pu := Lib.hid Ps.out
        clear HBs Ks Ps
        rw [rounds_succ]
        have p0 := Pu.out.cell 0 _ rfl
        have p1 := Pu.out.cell 1 _ rfl
        have p2 := Pu.out.cell 2 _ rfl
        go_wp2_with fail
        clear p0 p1 p2
        refine (formatPose_spec 1 x y _).mono ?_
        rintro e v3 ⟨rfl, hb⟩
        rw [E1.out]
        have HB_3 := Lib.hid (HBu.out.trans (hb.mono HBu.out.size))
        have K_3 := Lib.hid (Ku.out.after hb)
        have P_3 := Lib.hid (Pu.out.after hb)
        clear hb HBu Ku Pu
        have p0 := P_3.out.cell 0 _ rfl
        have p1 := P_3.out.cell 1 _ rfl
        have p2 := P_3.out.cell 2 _ rfl
        go_wp2_with fail
        clear p0 p1 p2
        refine (formatPose_spec 1 x y _).mono ?_
        rintro e v4 ⟨rfl, hb⟩
        rw [E1.out]
        have HB_4 := Lib.hid (HB_3.out.trans (hb.mono HB_3.out.size))
        have K_4 := Lib.hid (K_3.out.after hb)
        have P_4 := Lib.hid (P_3.out.after hb)
        clear hb HB_3 K_3 P_3
        have p0 := P_4.out.cell 0 _ rfl
        have p1 := P_4.out.cell 1 _ rfl
        have p2 := P_4.out.cell 2 _ rfl
        have q0 := P_4.out.froz 0 _ rfl
        go_wp2
        clear p0 p1 p2 q0
        have HBs := Lib.hid (HB_4.out.setCell (p := ⟨w1.heap.size, 0, none⟩) HGE.out (.int .i64 2))
        have Ks := Lib.hid (K_4.out.setOther (p := ⟨w1.heap.size, 0, none⟩) HNE.out (.int .i64 2))
        have Ps : Hid (HeldL (v4.setCell ⟨w1.heap.size, 0, none⟩ (.int .i64 2)) w1.heap.size [.int .i64 2, .int .i64 x, .int .i64 y]) := (P_4.out.set 0 (.int .i64 2) _ rfl)
        obtain ⟨u2, hu⟩ : ∃ u, v4.setCell ⟨w1.heap.size, 0, none⟩ (.int .i64 2) = u := ⟨_, rfl⟩
        rw [hu] at HBs Ks Ps ⊢
        clear hu HB_4 K_4 P_4
        have HBu := Lib.hid HBs.out
        have Ku := Lib.hid Ks.out
        have Pu := Lib.hid Ps.out
        clear HBs Ks Ps
        rw [rounds_succ]
        have p0 := Pu.out.cell 0 _ rfl
        have p1 := Pu.out.cell 1 _ rfl
        have p2 := Pu.out.cell 2 _ rfl
        go_wp2_with fail
        clear p0 p1 p2
        refine (formatPose_spec 2 x y _).mono ?_
        rintro e v5 ⟨rfl, hb⟩
        rw [E2.out]
        have HB_5 := Lib.hid (HBu.out.trans (hb.mono HBu.out.size))
        have K_5 := Lib.hid (Ku.out.after hb)
        have P_5 := Lib.hid (Pu.out.after hb)
        clear hb HBu Ku Pu
        have p0 := P_5.out.cell 0 _ rfl
        have p1 := P_5.out.cell 1 _ rfl
        have p2 := P_5.out.cell 2 _ rfl
        go_wp2_with fail
        clear p0 p1 p2
        refine (formatPose_spec 2 x y _).mono ?_
        rintro e v6 ⟨rfl, hb⟩
        rw [E2.out]
        have HB_6 := Lib.hid (HB_5.out.trans (hb.mono HB_5.out.size))
        have K_6 := Lib.hid (K_5.out.after hb)
        have P_6 := Lib.hid (P_5.out.after hb)
        clear hb HB_5 K_5 P_5
        have p0 := P_6.out.cell 0 _ rfl
        have p1 := P_6.out.cell 1 _ rfl
        have p2 := P_6.out.cell 2 _ rfl
        have r0 := K_6.out.cell 0 _ rfl
        have r1 := K_6.out.cell 1 _ rfl
        have r2 := K_6.out.cell 2 _ rfl
        have f0 := K_6.out.froz 0 _ rfl
        have f1 := K_6.out.froz 1 _ rfl
        have f2 := K_6.out.froz 2 _ rfl
        have hnp := HNE.out
        have hnq := HNE.out.symm
        go_wp2
        exact bodyPost_ret (v := .tuple #[.agg #[.int .i64 2, .int .i64 x, .int .i64 y], .bool true]) (by simp [results, Tryd.results36, go_sem, r0, r1, r2]) rfl ⟨.inl ⟨2, x, y, HOK.out, HS.out, rfl⟩, ((HB_6.out.setCell (Nat.le_refl _) _).setCell (Nat.le_refl _) _).setCell (Nat.le_refl _) _⟩
      · have HOK := Lib.hid hok
        have HS := Lib.hid hst
        have HNS0 := Lib.hid (show F0 ≠ s by rw [← e0, hst]; intro h; have := (fmtP_inj (ok_yes ⟨⟨by omega, by omega⟩, hx, hy⟩) hok h).1; omega)
        have HNS1 := Lib.hid (show F1 ≠ s by rw [← e1, hst]; intro h; have := (fmtP_inj (ok_yes ⟨⟨by omega, by omega⟩, hx, hy⟩) hok h).1; omega)
        have HNS2 := Lib.hid (show F2 ≠ s by rw [← e2, hst]; intro h; have := (fmtP_inj (ok_yes ⟨⟨by omega, by omega⟩, hx, hy⟩) hok h).1; omega)
        obtain rfl : s = F3 := hst.trans e3
        clear hok hst e0 e1 e2 e3 hq hx hy ht0 ht1
        have n0a := str_ne F0 ⟨#[]⟩ HNZ0.out
        obtain ⟨n0b, n0c⟩ := n0a
        have n0d : F0.toList.isEmpty = false := toList_ne HNZ0.out
        have n1a := str_ne F1 ⟨#[]⟩ HNZ1.out
        obtain ⟨n1b, n1c⟩ := n1a
        have n1d : F1.toList.isEmpty = false := toList_ne HNZ1.out
        have n2a := str_ne F2 ⟨#[]⟩ HNZ2.out
        obtain ⟨n2b, n2c⟩ := n2a
        have n2d : F2.toList.isEmpty = false := toList_ne HNZ2.out
        have n3a := str_ne s ⟨#[]⟩ HNZ3.out
        obtain ⟨n3b, n3c⟩ := n3a
        have n3d : s.toList.isEmpty = false := toList_ne HNZ3.out
        have m0a := str_ne F0 s HNS0.out
        obtain ⟨m0b, m0c⟩ := m0a
        have m1a := str_ne F1 s HNS1.out
        obtain ⟨m1b, m1c⟩ := m1a
        have m2a := str_ne F2 s HNS2.out
        obtain ⟨m2b, m2c⟩ := m2a
        refine wp_loop_rounds 6 ?_
        rw [rounds_succ]
        have p0 := Pu.out.cell 0 _ rfl
        have p1 := Pu.out.cell 1 _ rfl
        have p2 := Pu.out.cell 2 _ rfl
        go_wp2_with fail
        clear p0 p1 p2
        refine (formatPose_spec 0 x y _).mono ?_
        rintro e v1 ⟨rfl, hb⟩
        rw [E0.out]
        have HB_1 := Lib.hid (HBu.out.trans (hb.mono HBu.out.size))
        have K_1 := Lib.hid (Ku.out.after hb)
        have P_1 := Lib.hid (Pu.out.after hb)
        clear hb HBu Ku Pu
        have p0 := P_1.out.cell 0 _ rfl
        have p1 := P_1.out.cell 1 _ rfl
        have p2 := P_1.out.cell 2 _ rfl
        go_wp2_with fail
        clear p0 p1 p2
        refine (formatPose_spec 0 x y _).mono ?_
        rintro e v2 ⟨rfl, hb⟩
        rw [E0.out]
        have HB_2 := Lib.hid (HB_1.out.trans (hb.mono HB_1.out.size))
        have K_2 := Lib.hid (K_1.out.after hb)
        have P_2 := Lib.hid (P_1.out.after hb)
        clear hb HB_1 K_1 P_1
        have p0 := P_2.out.cell 0 _ rfl
        have p1 := P_2.out.cell 1 _ rfl
        have p2 := P_2.out.cell 2 _ rfl
        have q0 := P_2.out.froz 0 _ rfl
        go_wp2
        clear p0 p1 p2 q0
        have HBs := Lib.hid (HB_2.out.setCell (p := ⟨w1.heap.size, 0, none⟩) HGE.out (.int .i64 1))
        have Ks := Lib.hid (K_2.out.setOther (p := ⟨w1.heap.size, 0, none⟩) HNE.out (.int .i64 1))
        have Ps : Hid (HeldL (v2.setCell ⟨w1.heap.size, 0, none⟩ (.int .i64 1)) w1.heap.size [.int .i64 1, .int .i64 x, .int .i64 y]) := (P_2.out.set 0 (.int .i64 1) _ rfl)
        obtain ⟨u1, hu⟩ : ∃ u, v2.setCell ⟨w1.heap.size, 0, none⟩ (.int .i64 1) = u := ⟨_, rfl⟩
        rw [hu] at HBs Ks Ps ⊢
        clear hu HB_2 K_2 P_2
        have HBu := Lib.hid HBs.out
        have Ku := Lib.hid Ks.out
        have Pu := Lib.hid Ps.out
        clear HBs Ks Ps
        rw [rounds_succ]
        have p0 := Pu.out.cell 0 _ rfl
        have p1 := Pu.out.cell 1 _ rfl
        have p2 := Pu.out.cell 2 _ rfl
        go_wp2_with fail
        clear p0 p1 p2
        refine (formatPose_spec 1 x y _).mono ?_
        rintro e v3 ⟨rfl, hb⟩
        rw [E1.out]
        have HB_3 := Lib.hid (HBu.out.trans (hb.mono HBu.out.size))
        have K_3 := Lib.hid (Ku.out.after hb)
        have P_3 := Lib.hid (Pu.out.after hb)
        clear hb HBu Ku Pu
        have p0 := P_3.out.cell 0 _ rfl
        have p1 := P_3.out.cell 1 _ rfl
        have p2 := P_3.out.cell 2 _ rfl
        go_wp2_with fail
        clear p0 p1 p2
        refine (formatPose_spec 1 x y _).mono ?_
        rintro e v4 ⟨rfl, hb⟩
        rw [E1.out]
        have HB_4 := Lib.hid (HB_3.out.trans (hb.mono HB_3.out.size))
        have K_4 := Lib.hid (K_3.out.after hb)
        have P_4 := Lib.hid (P_3.out.after hb)
        clear hb HB_3 K_3 P_3
        have p0 := P_4.out.cell 0 _ rfl
        have p1 := P_4.out.cell 1 _ rfl
        have p2 := P_4.out.cell 2 _ rfl
        have q0 := P_4.out.froz 0 _ rfl
        go_wp2
        clear p0 p1 p2 q0
        have HBs := Lib.hid (HB_4.out.setCell (p := ⟨w1.heap.size, 0, none⟩) HGE.out (.int .i64 2))
        have Ks := Lib.hid (K_4.out.setOther (p := ⟨w1.heap.size, 0, none⟩) HNE.out (.int .i64 2))
        have Ps : Hid (HeldL (v4.setCell ⟨w1.heap.size, 0, none⟩ (.int .i64 2)) w1.heap.size [.int .i64 2, .int .i64 x, .int .i64 y]) := (P_4.out.set 0 (.int .i64 2) _ rfl)
        obtain ⟨u2, hu⟩ : ∃ u, v4.setCell ⟨w1.heap.size, 0, none⟩ (.int .i64 2) = u := ⟨_, rfl⟩
        rw [hu] at HBs Ks Ps ⊢
        clear hu HB_4 K_4 P_4
        have HBu := Lib.hid HBs.out
        have Ku := Lib.hid Ks.out
        have Pu := Lib.hid Ps.out
        clear HBs Ks Ps
        rw [rounds_succ]
        have p0 := Pu.out.cell 0 _ rfl
        have p1 := Pu.out.cell 1 _ rfl
        have p2 := Pu.out.cell 2 _ rfl
        go_wp2_with fail
        clear p0 p1 p2
        refine (formatPose_spec 2 x y _).mono ?_
        rintro e v5 ⟨rfl, hb⟩
        rw [E2.out]
        have HB_5 := Lib.hid (HBu.out.trans (hb.mono HBu.out.size))
        have K_5 := Lib.hid (Ku.out.after hb)
        have P_5 := Lib.hid (Pu.out.after hb)
        clear hb HBu Ku Pu
        have p0 := P_5.out.cell 0 _ rfl
        have p1 := P_5.out.cell 1 _ rfl
        have p2 := P_5.out.cell 2 _ rfl
        go_wp2_with fail
        clear p0 p1 p2
        refine (formatPose_spec 2 x y _).mono ?_
        rintro e v6 ⟨rfl, hb⟩
        rw [E2.out]
        have HB_6 := Lib.hid (HB_5.out.trans (hb.mono HB_5.out.size))
        have K_6 := Lib.hid (K_5.out.after hb)
        have P_6 := Lib.hid (P_5.out.after hb)
        clear hb HB_5 K_5 P_5
        have p0 := P_6.out.cell 0 _ rfl
        have p1 := P_6.out.cell 1 _ rfl
        have p2 := P_6.out.cell 2 _ rfl
        have q0 := P_6.out.froz 0 _ rfl
        go_wp2
        clear p0 p1 p2 q0
        have HBs := Lib.hid (HB_6.out.setCell (p := ⟨w1.heap.size, 0, none⟩) HGE.out (.int .i64 3))
        have Ks := Lib.hid (K_6.out.setOther (p := ⟨w1.heap.size, 0, none⟩) HNE.out (.int .i64 3))
        have Ps : Hid (HeldL (v6.setCell ⟨w1.heap.size, 0, none⟩ (.int .i64 3)) w1.heap.size [.int .i64 3, .int .i64 x, .int .i64 y]) := (P_6.out.set 0 (.int .i64 3) _ rfl)
        obtain ⟨u3, hu⟩ : ∃ u, v6.setCell ⟨w1.heap.size, 0, none⟩ (.int .i64 3) = u := ⟨_, rfl⟩
        rw [hu] at HBs Ks Ps ⊢
        clear hu HB_6 K_6 P_6
        have HBu := Lib.hid HBs.out
        have Ku := Lib.hid Ks.out
        have Pu := Lib.hid Ps.out
        clear HBs Ks Ps
        rw [rounds_succ]
        have p0 := Pu.out.cell 0 _ rfl
        have p1 := Pu.out.cell 1 _ rfl
        have p2 := Pu.out.cell 2 _ rfl
        go_wp2_with fail
        clear p0 p1 p2
        refine (formatPose_spec 3 x y _).mono ?_
        rintro e v7 ⟨rfl, hb⟩
        rw [E3.out]
        have HB_7 := Lib.hid (HBu.out.trans (hb.mono HBu.out.size))
        have K_7 := Lib.hid (Ku.out.after hb)
        have P_7 := Lib.hid (Pu.out.after hb)
        clear hb HBu Ku Pu
        have p0 := P_7.out.cell 0 _ rfl
        have p1 := P_7.out.cell 1 _ rfl
        have p2 := P_7.out.cell 2 _ rfl
        go_wp2_with fail
        clear p0 p1 p2
        refine (formatPose_spec 3 x y _).mono ?_
        rintro e v8 ⟨rfl, hb⟩
        rw [E3.out]
        have HB_8 := Lib.hid (HB_7.out.trans (hb.mono HB_7.out.size))
        have K_8 := Lib.hid (K_7.out.after hb)
        have P_8 := Lib.hid (P_7.out.after hb)
        clear hb HB_7 K_7 P_7
        have p0 := P_8.out.cell 0 _ rfl
        have p1 := P_8.out.cell 1 _ rfl
        have p2 := P_8.out.cell 2 _ rfl
        have r0 := K_8.out.cell 0 _ rfl
        have r1 := K_8.out.cell 1 _ rfl
        have r2 := K_8.out.cell 2 _ rfl
        have f0 := K_8.out.froz 0 _ rfl
        have f1 := K_8.out.froz 1 _ rfl
        have f2 := K_8.out.froz 2 _ rfl
        have hnp := HNE.out
        have hnq := HNE.out.symm
        go_wp2
        exact bodyPost_ret (v := .tuple #[.agg #[.int .i64 3, .int .i64 x, .int .i64 y], .bool true]) (by simp [results, Tryd.results36, go_sem, r0, r1, r2]) rfl ⟨.inl ⟨3, x, y, HOK.out, HS.out, rfl⟩, ((HB_8.out.setCell (Nat.le_refl _) _).setCell (Nat.le_refl _) _).setCell (Nat.le_refl _) _⟩
    · have HN := Lib.hid hq
      by_cases hv : ok 0 x y = true
      · obtain ⟨_, hx, hy⟩ := ok_iff.mp hv
        have k0 := ok_yes (t := 0) ⟨⟨by omega, by omega⟩, hx, hy⟩
        have HNZ0 := Lib.hid (e0 ▸ fmtP_nz k0 : F0 ≠ ⟨#[]⟩)
        have HNS0 := Lib.hid (show F0 ≠ s from fun h => hq ⟨0, x, y, k0, h.symm.trans e0.symm⟩)
        have k1 := ok_yes (t := 1) ⟨⟨by omega, by omega⟩, hx, hy⟩
        have HNZ1 := Lib.hid (e1 ▸ fmtP_nz k1 : F1 ≠ ⟨#[]⟩)
        have HNS1 := Lib.hid (show F1 ≠ s from fun h => hq ⟨1, x, y, k1, h.symm.trans e1.symm⟩)
        have k2 := ok_yes (t := 2) ⟨⟨by omega, by omega⟩, hx, hy⟩
        have HNZ2 := Lib.hid (e2 ▸ fmtP_nz k2 : F2 ≠ ⟨#[]⟩)
        have HNS2 := Lib.hid (show F2 ≠ s from fun h => hq ⟨2, x, y, k2, h.symm.trans e2.symm⟩)
        have k3 := ok_yes (t := 3) ⟨⟨by omega, by omega⟩, hx, hy⟩
        have HNZ3 := Lib.hid (e3 ▸ fmtP_nz k3 : F3 ≠ ⟨#[]⟩)
        have HNS3 := Lib.hid (show F3 ≠ s from fun h => hq ⟨3, x, y, k3, h.symm.trans e3.symm⟩)
        clear k0 k1 k2 k3 hv hx hy e0 e1 e2 e3 hq
        have n0a := str_ne F0 ⟨#[]⟩ HNZ0.out
        obtain ⟨n0b, n0c⟩ := n0a
        have n0d : F0.toList.isEmpty = false := toList_ne HNZ0.out
        have m0a := str_ne F0 s HNS0.out
        obtain ⟨m0b, m0c⟩ := m0a
        have n1a := str_ne F1 ⟨#[]⟩ HNZ1.out
        obtain ⟨n1b, n1c⟩ := n1a
        have n1d : F1.toList.isEmpty = false := toList_ne HNZ1.out
        have m1a := str_ne F1 s HNS1.out
        obtain ⟨m1b, m1c⟩ := m1a
        have n2a := str_ne F2 ⟨#[]⟩ HNZ2.out
        obtain ⟨n2b, n2c⟩ := n2a
        have n2d : F2.toList.isEmpty = false := toList_ne HNZ2.out
        have m2a := str_ne F2 s HNS2.out
        obtain ⟨m2b, m2c⟩ := m2a
        have n3a := str_ne F3 ⟨#[]⟩ HNZ3.out
        obtain ⟨n3b, n3c⟩ := n3a
        have n3d : F3.toList.isEmpty = false := toList_ne HNZ3.out
        have m3a := str_ne F3 s HNS3.out
        obtain ⟨m3b, m3c⟩ := m3a
        refine wp_loop_rounds 6 ?_
        rw [rounds_succ]
        have p0 := Pu.out.cell 0 _ rfl
        have p1 := Pu.out.cell 1 _ rfl
        have p2 := Pu.out.cell 2 _ rfl
        go_wp2_with fail
        clear p0 p1 p2
        refine (formatPose_spec 0 x y _).mono ?_
        rintro e v1 ⟨rfl, hb⟩
        rw [E0.out]
        have HB_1 := Lib.hid (HBu.out.trans (hb.mono HBu.out.size))
        have K_1 := Lib.hid (Ku.out.after hb)
        have P_1 := Lib.hid (Pu.out.after hb)
        clear hb HBu Ku Pu
        have p0 := P_1.out.cell 0 _ rfl
        have p1 := P_1.out.cell 1 _ rfl
        have p2 := P_1.out.cell 2 _ rfl
        go_wp2_with fail
        clear p0 p1 p2
        refine (formatPose_spec 0 x y _).mono ?_
        rintro e v2 ⟨rfl, hb⟩
        rw [E0.out]
        have HB_2 := Lib.hid (HB_1.out.trans (hb.mono HB_1.out.size))
        have K_2 := Lib.hid (K_1.out.after hb)
        have P_2 := Lib.hid (P_1.out.after hb)
        clear hb HB_1 K_1 P_1
        have p0 := P_2.out.cell 0 _ rfl
        have p1 := P_2.out.cell 1 _ rfl
        have p2 := P_2.out.cell 2 _ rfl
        have q0 := P_2.out.froz 0 _ rfl
        go_wp2
        clear p0 p1 p2 q0
        have HBs := Lib.hid (HB_2.out.setCell (p := ⟨w1.heap.size, 0, none⟩) HGE.out (.int .i64 1))
        have Ks := Lib.hid (K_2.out.setOther (p := ⟨w1.heap.size, 0, none⟩) HNE.out (.int .i64 1))
        have Ps : Hid (HeldL (v2.setCell ⟨w1.heap.size, 0, none⟩ (.int .i64 1)) w1.heap.size [.int .i64 1, .int .i64 x, .int .i64 y]) := (P_2.out.set 0 (.int .i64 1) _ rfl)
        obtain ⟨u1, hu⟩ : ∃ u, v2.setCell ⟨w1.heap.size, 0, none⟩ (.int .i64 1) = u := ⟨_, rfl⟩
        rw [hu] at HBs Ks Ps ⊢
        clear hu HB_2 K_2 P_2
        have HBu := Lib.hid HBs.out
        have Ku := Lib.hid Ks.out
        have Pu := Lib.hid Ps.out
        clear HBs Ks Ps
        rw [rounds_succ]
        have p0 := Pu.out.cell 0 _ rfl
        have p1 := Pu.out.cell 1 _ rfl
        have p2 := Pu.out.cell 2 _ rfl
        go_wp2_with fail
        clear p0 p1 p2
        refine (formatPose_spec 1 x y _).mono ?_
        rintro e v3 ⟨rfl, hb⟩
        rw [E1.out]
        have HB_3 := Lib.hid (HBu.out.trans (hb.mono HBu.out.size))
        have K_3 := Lib.hid (Ku.out.after hb)
        have P_3 := Lib.hid (Pu.out.after hb)
        clear hb HBu Ku Pu
        have p0 := P_3.out.cell 0 _ rfl
        have p1 := P_3.out.cell 1 _ rfl
        have p2 := P_3.out.cell 2 _ rfl
        go_wp2_with fail
        clear p0 p1 p2
        refine (formatPose_spec 1 x y _).mono ?_
        rintro e v4 ⟨rfl, hb⟩
        rw [E1.out]
        have HB_4 := Lib.hid (HB_3.out.trans (hb.mono HB_3.out.size))
        have K_4 := Lib.hid (K_3.out.after hb)
        have P_4 := Lib.hid (P_3.out.after hb)
        clear hb HB_3 K_3 P_3
        have p0 := P_4.out.cell 0 _ rfl
        have p1 := P_4.out.cell 1 _ rfl
        have p2 := P_4.out.cell 2 _ rfl
        have q0 := P_4.out.froz 0 _ rfl
        go_wp2
        clear p0 p1 p2 q0
        have HBs := Lib.hid (HB_4.out.setCell (p := ⟨w1.heap.size, 0, none⟩) HGE.out (.int .i64 2))
        have Ks := Lib.hid (K_4.out.setOther (p := ⟨w1.heap.size, 0, none⟩) HNE.out (.int .i64 2))
        have Ps : Hid (HeldL (v4.setCell ⟨w1.heap.size, 0, none⟩ (.int .i64 2)) w1.heap.size [.int .i64 2, .int .i64 x, .int .i64 y]) := (P_4.out.set 0 (.int .i64 2) _ rfl)
        obtain ⟨u2, hu⟩ : ∃ u, v4.setCell ⟨w1.heap.size, 0, none⟩ (.int .i64 2) = u := ⟨_, rfl⟩
        rw [hu] at HBs Ks Ps ⊢
        clear hu HB_4 K_4 P_4
        have HBu := Lib.hid HBs.out
        have Ku := Lib.hid Ks.out
        have Pu := Lib.hid Ps.out
        clear HBs Ks Ps
        rw [rounds_succ]
        have p0 := Pu.out.cell 0 _ rfl
        have p1 := Pu.out.cell 1 _ rfl
        have p2 := Pu.out.cell 2 _ rfl
        go_wp2_with fail
        clear p0 p1 p2
        refine (formatPose_spec 2 x y _).mono ?_
        rintro e v5 ⟨rfl, hb⟩
        rw [E2.out]
        have HB_5 := Lib.hid (HBu.out.trans (hb.mono HBu.out.size))
        have K_5 := Lib.hid (Ku.out.after hb)
        have P_5 := Lib.hid (Pu.out.after hb)
        clear hb HBu Ku Pu
        have p0 := P_5.out.cell 0 _ rfl
        have p1 := P_5.out.cell 1 _ rfl
        have p2 := P_5.out.cell 2 _ rfl
        go_wp2_with fail
        clear p0 p1 p2
        refine (formatPose_spec 2 x y _).mono ?_
        rintro e v6 ⟨rfl, hb⟩
        rw [E2.out]
        have HB_6 := Lib.hid (HB_5.out.trans (hb.mono HB_5.out.size))
        have K_6 := Lib.hid (K_5.out.after hb)
        have P_6 := Lib.hid (P_5.out.after hb)
        clear hb HB_5 K_5 P_5
        have p0 := P_6.out.cell 0 _ rfl
        have p1 := P_6.out.cell 1 _ rfl
        have p2 := P_6.out.cell 2 _ rfl
        have q0 := P_6.out.froz 0 _ rfl
        go_wp2
        clear p0 p1 p2 q0
        have HBs := Lib.hid (HB_6.out.setCell (p := ⟨w1.heap.size, 0, none⟩) HGE.out (.int .i64 3))
        have Ks := Lib.hid (K_6.out.setOther (p := ⟨w1.heap.size, 0, none⟩) HNE.out (.int .i64 3))
        have Ps : Hid (HeldL (v6.setCell ⟨w1.heap.size, 0, none⟩ (.int .i64 3)) w1.heap.size [.int .i64 3, .int .i64 x, .int .i64 y]) := (P_6.out.set 0 (.int .i64 3) _ rfl)
        obtain ⟨u3, hu⟩ : ∃ u, v6.setCell ⟨w1.heap.size, 0, none⟩ (.int .i64 3) = u := ⟨_, rfl⟩
        rw [hu] at HBs Ks Ps ⊢
        clear hu HB_6 K_6 P_6
        have HBu := Lib.hid HBs.out
        have Ku := Lib.hid Ks.out
        have Pu := Lib.hid Ps.out
        clear HBs Ks Ps
        rw [rounds_succ]
        have p0 := Pu.out.cell 0 _ rfl
        have p1 := Pu.out.cell 1 _ rfl
        have p2 := Pu.out.cell 2 _ rfl
        go_wp2_with fail
        clear p0 p1 p2
        refine (formatPose_spec 3 x y _).mono ?_
        rintro e v7 ⟨rfl, hb⟩
        rw [E3.out]
        have HB_7 := Lib.hid (HBu.out.trans (hb.mono HBu.out.size))
        have K_7 := Lib.hid (Ku.out.after hb)
        have P_7 := Lib.hid (Pu.out.after hb)
        clear hb HBu Ku Pu
        have p0 := P_7.out.cell 0 _ rfl
        have p1 := P_7.out.cell 1 _ rfl
        have p2 := P_7.out.cell 2 _ rfl
        go_wp2_with fail
        clear p0 p1 p2
        refine (formatPose_spec 3 x y _).mono ?_
        rintro e v8 ⟨rfl, hb⟩
        rw [E3.out]
        have HB_8 := Lib.hid (HB_7.out.trans (hb.mono HB_7.out.size))
        have K_8 := Lib.hid (K_7.out.after hb)
        have P_8 := Lib.hid (P_7.out.after hb)
        clear hb HB_7 K_7 P_7
        have p0 := P_8.out.cell 0 _ rfl
        have p1 := P_8.out.cell 1 _ rfl
        have p2 := P_8.out.cell 2 _ rfl
        have q0 := P_8.out.froz 0 _ rfl
        go_wp2
        clear p0 p1 p2 q0
        have HBs := Lib.hid (HB_8.out.setCell (p := ⟨w1.heap.size, 0, none⟩) HGE.out (.int .i64 4))
        have Ks := Lib.hid (K_8.out.setOther (p := ⟨w1.heap.size, 0, none⟩) HNE.out (.int .i64 4))
        have Ps : Hid (HeldL (v8.setCell ⟨w1.heap.size, 0, none⟩ (.int .i64 4)) w1.heap.size [.int .i64 4, .int .i64 x, .int .i64 y]) := (P_8.out.set 0 (.int .i64 4) _ rfl)
        obtain ⟨u4, hu⟩ : ∃ u, v8.setCell ⟨w1.heap.size, 0, none⟩ (.int .i64 4) = u := ⟨_, rfl⟩
        rw [hu] at HBs Ks Ps ⊢
        clear hu HB_8 K_8 P_8
        have HBu := Lib.hid HBs.out
        have Ku := Lib.hid Ks.out
        have Pu := Lib.hid Ps.out
        clear HBs Ks Ps
        rw [rounds_succ]
        have p0 := Pu.out.cell 0 _ rfl
        have p1 := Pu.out.cell 1 _ rfl
        have p2 := Pu.out.cell 2 _ rfl
        have r0 := Ku.out.cell 0 _ rfl
        have r1 := Ku.out.cell 1 _ rfl
        have r2 := Ku.out.cell 2 _ rfl
        have f0 := Ku.out.froz 0 _ rfl
        have f1 := Ku.out.froz 1 _ rfl
        have f2 := Ku.out.froz 2 _ rfl
        go_wp2
        have T := ((HBu.out.setCell (p := ⟨w.heap.size, 0, none⟩) (Nat.le_refl _) (.int .i64 0)).setCell (p := ⟨w.heap.size, 1, none⟩) (Nat.le_refl _) (.int .i64 0)).setCell (p := ⟨w.heap.size, 2, none⟩) (Nat.le_refl _) (.int .i64 0)
        exact bodyPost_ret (v := .tuple #[.agg #[.int .i64 0, .int .i64 0, .int .i64 0], .bool false]) (by simp [results, Tryd.results36, go_sem, r0, r1, r2]) rfl ⟨.inr ⟨HN.out, rfl⟩, T⟩
      · rw [Bool.not_eq_true] at hv
        obtain rfl : (⟨#[]⟩ : ByteArray) = F0 := (fmtP_no (ok_turn (t := 0) (u := 0) (by omega) (by omega) (by omega) (by omega) hv)).symm.trans e0
        obtain rfl : (⟨#[]⟩ : ByteArray) = F1 := (fmtP_no (ok_turn (t := 0) (u := 1) (by omega) (by omega) (by omega) (by omega) hv)).symm.trans e1
        obtain rfl : (⟨#[]⟩ : ByteArray) = F2 := (fmtP_no (ok_turn (t := 0) (u := 2) (by omega) (by omega) (by omega) (by omega) hv)).symm.trans e2
        obtain rfl : (⟨#[]⟩ : ByteArray) = F3 := (fmtP_no (ok_turn (t := 0) (u := 3) (by omega) (by omega) (by omega) (by omega) hv)).symm.trans e3
        clear hv e0 e1 e2 e3 hq
        refine wp_loop_rounds 6 ?_
        rw [rounds_succ]
        have p0 := Pu.out.cell 0 _ rfl
        have p1 := Pu.out.cell 1 _ rfl
        have p2 := Pu.out.cell 2 _ rfl
        go_wp2_with fail
        clear p0 p1 p2
        refine (formatPose_spec 0 x y _).mono ?_
        rintro e v1 ⟨rfl, hb⟩
        rw [E0.out]
        have HB_1 := Lib.hid (HBu.out.trans (hb.mono HBu.out.size))
        have K_1 := Lib.hid (Ku.out.after hb)
        have P_1 := Lib.hid (Pu.out.after hb)
        clear hb HBu Ku Pu
        have p0 := P_1.out.cell 0 _ rfl
        have p1 := P_1.out.cell 1 _ rfl
        have p2 := P_1.out.cell 2 _ rfl
        have q0 := P_1.out.froz 0 _ rfl
        go_wp2
        clear p0 p1 p2 q0
        have HBs := Lib.hid (HB_1.out.setCell (p := ⟨w1.heap.size, 0, none⟩) HGE.out (.int .i64 1))
        have Ks := Lib.hid (K_1.out.setOther (p := ⟨w1.heap.size, 0, none⟩) HNE.out (.int .i64 1))
        have Ps : Hid (HeldL (v1.setCell ⟨w1.heap.size, 0, none⟩ (.int .i64 1)) w1.heap.size [.int .i64 1, .int .i64 x, .int .i64 y]) := (P_1.out.set 0 (.int .i64 1) _ rfl)
        obtain ⟨u1, hu⟩ : ∃ u, v1.setCell ⟨w1.heap.size, 0, none⟩ (.int .i64 1) = u := ⟨_, rfl⟩
        rw [hu] at HBs Ks Ps ⊢
        clear hu HB_1 K_1 P_1
        have HBu := Lib.hid HBs.out
        have Ku := Lib.hid Ks.out
        have Pu := Lib.hid Ps.out
        clear HBs Ks Ps
        rw [rounds_succ]
        have p0 := Pu.out.cell 0 _ rfl
        have p1 := Pu.out.cell 1 _ rfl
        have p2 := Pu.out.cell 2 _ rfl
        go_wp2_with fail
        clear p0 p1 p2
        refine (formatPose_spec 1 x y _).mono ?_
        rintro e v2 ⟨rfl, hb⟩
        rw [E1.out]
        have HB_2 := Lib.hid (HBu.out.trans (hb.mono HBu.out.size))
        have K_2 := Lib.hid (Ku.out.after hb)
        have P_2 := Lib.hid (Pu.out.after hb)
        clear hb HBu Ku Pu
        have p0 := P_2.out.cell 0 _ rfl
        have p1 := P_2.out.cell 1 _ rfl
        have p2 := P_2.out.cell 2 _ rfl
        have q0 := P_2.out.froz 0 _ rfl
        go_wp2
        clear p0 p1 p2 q0
        have HBs := Lib.hid (HB_2.out.setCell (p := ⟨w1.heap.size, 0, none⟩) HGE.out (.int .i64 2))
        have Ks := Lib.hid (K_2.out.setOther (p := ⟨w1.heap.size, 0, none⟩) HNE.out (.int .i64 2))
        have Ps : Hid (HeldL (v2.setCell ⟨w1.heap.size, 0, none⟩ (.int .i64 2)) w1.heap.size [.int .i64 2, .int .i64 x, .int .i64 y]) := (P_2.out.set 0 (.int .i64 2) _ rfl)
        obtain ⟨u2, hu⟩ : ∃ u, v2.setCell ⟨w1.heap.size, 0, none⟩ (.int .i64 2) = u := ⟨_, rfl⟩
        rw [hu] at HBs Ks Ps ⊢
        clear hu HB_2 K_2 P_2
        have HBu := Lib.hid HBs.out
        have Ku := Lib.hid Ks.out
        have Pu := Lib.hid Ps.out
        clear HBs Ks Ps
        rw [rounds_succ]
        have p0 := Pu.out.cell 0 _ rfl
        have p1 := Pu.out.cell 1 _ rfl
        have p2 := Pu.out.cell 2 _ rfl
        go_wp2_with fail
        clear p0 p1 p2
        refine (formatPose_spec 2 x y _).mono ?_
        rintro e v3 ⟨rfl, hb⟩
        rw [E2.out]
        have HB_3 := Lib.hid (HBu.out.trans (hb.mono HBu.out.size))
        have K_3 := Lib.hid (Ku.out.after hb)
        have P_3 := Lib.hid (Pu.out.after hb)
        clear hb HBu Ku Pu
        have p0 := P_3.out.cell 0 _ rfl
        have p1 := P_3.out.cell 1 _ rfl
        have p2 := P_3.out.cell 2 _ rfl
        have q0 := P_3.out.froz 0 _ rfl
        go_wp2
        clear p0 p1 p2 q0
        have HBs := Lib.hid (HB_3.out.setCell (p := ⟨w1.heap.size, 0, none⟩) HGE.out (.int .i64 3))
        have Ks := Lib.hid (K_3.out.setOther (p := ⟨w1.heap.size, 0, none⟩) HNE.out (.int .i64 3))
        have Ps : Hid (HeldL (v3.setCell ⟨w1.heap.size, 0, none⟩ (.int .i64 3)) w1.heap.size [.int .i64 3, .int .i64 x, .int .i64 y]) := (P_3.out.set 0 (.int .i64 3) _ rfl)
        obtain ⟨u3, hu⟩ : ∃ u, v3.setCell ⟨w1.heap.size, 0, none⟩ (.int .i64 3) = u := ⟨_, rfl⟩
        rw [hu] at HBs Ks Ps ⊢
        clear hu HB_3 K_3 P_3
        have HBu := Lib.hid HBs.out
        have Ku := Lib.hid Ks.out
        have Pu := Lib.hid Ps.out
        clear HBs Ks Ps
        rw [rounds_succ]
        have p0 := Pu.out.cell 0 _ rfl
        have p1 := Pu.out.cell 1 _ rfl
        have p2 := Pu.out.cell 2 _ rfl
        go_wp2_with fail
        clear p0 p1 p2
        refine (formatPose_spec 3 x y _).mono ?_
        rintro e v4 ⟨rfl, hb⟩
        rw [E3.out]
        have HB_4 := Lib.hid (HBu.out.trans (hb.mono HBu.out.size))
        have K_4 := Lib.hid (Ku.out.after hb)
        have P_4 := Lib.hid (Pu.out.after hb)
        clear hb HBu Ku Pu
        have p0 := P_4.out.cell 0 _ rfl
        have p1 := P_4.out.cell 1 _ rfl
        have p2 := P_4.out.cell 2 _ rfl
        have q0 := P_4.out.froz 0 _ rfl
        go_wp2
        clear p0 p1 p2 q0
        have HBs := Lib.hid (HB_4.out.setCell (p := ⟨w1.heap.size, 0, none⟩) HGE.out (.int .i64 4))
        have Ks := Lib.hid (K_4.out.setOther (p := ⟨w1.heap.size, 0, none⟩) HNE.out (.int .i64 4))
        have Ps : Hid (HeldL (v4.setCell ⟨w1.heap.size, 0, none⟩ (.int .i64 4)) w1.heap.size [.int .i64 4, .int .i64 x, .int .i64 y]) := (P_4.out.set 0 (.int .i64 4) _ rfl)
        obtain ⟨u4, hu⟩ : ∃ u, v4.setCell ⟨w1.heap.size, 0, none⟩ (.int .i64 4) = u := ⟨_, rfl⟩
        rw [hu] at HBs Ks Ps ⊢
        clear hu HB_4 K_4 P_4
        have HBu := Lib.hid HBs.out
        have Ku := Lib.hid Ks.out
        have Pu := Lib.hid Ps.out
        clear HBs Ks Ps
        rw [rounds_succ]
        have p0 := Pu.out.cell 0 _ rfl
        have p1 := Pu.out.cell 1 _ rfl
        have p2 := Pu.out.cell 2 _ rfl
        have r0 := Ku.out.cell 0 _ rfl
        have r1 := Ku.out.cell 1 _ rfl
        have r2 := Ku.out.cell 2 _ rfl
        have f0 := Ku.out.froz 0 _ rfl
        have f1 := Ku.out.froz 1 _ rfl
        have f2 := Ku.out.froz 2 _ rfl
        go_wp2
        have T := ((HBu.out.setCell (p := ⟨w.heap.size, 0, none⟩) (Nat.le_refl _) (.int .i64 0)).setCell (p := ⟨w.heap.size, 1, none⟩) (Nat.le_refl _) (.int .i64 0)).setCell (p := ⟨w.heap.size, 2, none⟩) (Nat.le_refl _) (.int .i64 0)
        exact bodyPost_ret (v := .tuple #[.agg #[.int .i64 0, .int .i64 0, .int .i64 0], .bool false]) (by simp [results, Tryd.results36, go_sem, r0, r1, r2]) rfl ⟨.inr ⟨HN.out, rfl⟩, T⟩
  · have HN := Lib.hid (no_len (s := s) (by rw [hm]; exact h3))
    have h3' : ¬ ((m : Int) = 3) := by omega
    clear hm h3 HV
    have r0 := K1.out.cell 0 _ rfl
    have r1 := K1.out.cell 1 _ rfl
    have r2 := K1.out.cell 2 _ rfl
    have f0 := K1.out.froz 0 _ rfl
    have f1 := K1.out.froz 1 _ rfl
    have f2 := K1.out.froz 2 _ rfl
    go_wp2
    have T := ((HB1.out.setCell (p := ⟨w.heap.size, 0, none⟩) (Nat.le_refl _) (.int .i64 0)).setCell (p := ⟨w.heap.size, 1, none⟩) (Nat.le_refl _) (.int .i64 0)).setCell (p := ⟨w.heap.size, 2, none⟩) (Nat.le_refl _) (.int .i64 0)
    exact bodyPost_ret (v := .tuple #[.agg #[.int .i64 0, .int .i64 0, .int .i64 0], .bool false]) (by simp [results, Tryd.results36, go_sem, r0, r1, r2]) rfl ⟨.inr ⟨HN.out, rfl⟩, T⟩
end Go.Proofs.YtdilgjakodimbaaDoor
