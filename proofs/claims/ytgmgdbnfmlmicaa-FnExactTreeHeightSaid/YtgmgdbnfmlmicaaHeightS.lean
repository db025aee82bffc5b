/- The model's TreeHeight. Conditions: none. -/
import Derived.Test.YtgmgdbnfmlmicaaHelpI
import Derived.Test.YtgmgdbnfmlmicaaHeightMath
namespace Go.Proofs.Ytgmgdbnfmlmicaa
open Go.RowKit
set_option linter.unusedVariables false

/-- What lies between two rounds of the model's outer loop. -/
structure TSt (w0 W : World) (H n : Nat) (hs : List Int) : Prop where
  row : W.ownsRow w0.heap.size 3 1 (.slice (some ⟨H, 0, none⟩) n n) n (ints hs)
  below : Below w0.heap.size w0 W
theorem TSt.set {w0 W : World} {H n : Nat} {hs : List Int} (h : TSt w0 W H n hs) (i : Nat) (v : Int) : TSt w0 (W.setCell ⟨H, i, none⟩ (.int .i64 v)) H n (hs.set i v) := by
  have hs := World.ownsRow.stored h.row i (.int .i64 v)
  have hl := (h.row.lt H rfl).1
  refine ⟨?_, h.below.grown hs.2 h.below.size (fun k e => by cases e; exact hl)⟩
  have := hs.1
  simpa [ints, List.map_set] using this
theorem TSt.drewN {w0 W : World} {H n : Nat} {hs : List Int} (h : TSt w0 W H n hs) (q : Nat) : TSt w0 (W.drewN q) H n hs := ⟨h.row, below_drewN h.below q⟩
theorem TSt.cell {w0 W : World} {H n : Nat} {hs : List Int} (h : TSt w0 W H n hs) (hl : hs.length = n) {j : Nat} (hj : j < n) : W.cell? ⟨H, j, none⟩ = some (.int .i64 (hs[j]?.getD 0)) := by
  rw [World.ownsRow.cellAt h.row j (by omega)]
  simp [ints, hl, hj]
theorem VRow.look {w : World} {A : Option Addr} {n : Nat} {zs : List Int} (h : VRow w A n (ints zs)) {j : Nat} (hj : j < n) : ∃ g o, A = some ⟨g, o, none⟩ ∧ w.cell? ⟨g, o + j, none⟩ = some (.int .i64 (zs[j]?.getD 0)) := by
  obtain ⟨g, o, e, _, hc⟩ := h.at_ hj
  have hl : zs.length = n := by simpa [ints] using h.1
  refine ⟨g, o, e, ?_⟩
  rw [hc, ints_get]
  simp [hl, hj]
set_option maxRecDepth 100000 in
set_option maxHeartbeats 4000000 in
theorem treeHeight_s (A U : Option Addr) (n m c d : Nat) (os us : List Int) (w : World) (hA : VRow w A n (ints os)) (hU : VRow w U m (ints us)) (hm : m ≤ 1048576) (hn : n ≤ 1048576) :
    Calls Try.prog 4 #[.slice A n c, .slice U m d] w fun e w' => e = .returned (.int .i64 (treeH os us)) ∧ Below w.heap.size w w' := by
  have HL := Lib.hid (show os.length = n by simpa [ints] using hA.1)
  have HM := Lib.hid (show us.length = m by simpa [ints] using hU.1)
  by_cases hok : n = m ∧ n ≤ 10
  · obtain ⟨rfl, h10⟩ := hok
    have hgn : ((n : Int) == (n : Int)) = true := by simp
    obtain ⟨i0, hi, hz0, hz1, hz2⟩ := info_parts info_int
    have hw0 : IntKind.i64.wrap ((n : Int) - 1) = (n : Int) - 1 := by rw [IntKind.wrap_i64]; omega
    go_enter Try.func4, Try.ntmps4
    go_wp2_with (at_make; refine wpList_make_full _ rfl _ _ _ rfl w.heap.size 3 i0 _ 1 Try.underlying22 hi hz0 hz1 .i64 .i64 _ _ n rfl rfl rfl rfl (by rw [hz2]; omega) (by unfold maxLen; omega) (Nat.le_refl _) ?_; intro w1 hown hgrow)
    have hrow0 : (madeCells (Value.int IntKind.i64 0).cells (n * 1)).toList = ints (List.replicate n 0) := by
      simp [madeCells, ints, Value.cells, Nat.mod_one, List.map_const']
    rw [hrow0] at hown
    have hT0 : TSt w w1 w.heap.size n (List.replicate n 0) := ⟨hown, (Below.refl w.heap.size w).grown hgrow (Nat.le_refl _) (by simp)⟩
    obtain ⟨H, hH⟩ : ∃ H, w.heap.size = H := ⟨_, rfl⟩
    simp only [hH] at hT0 ⊢
    have HT0 := Lib.hid hT0
    have HH := Lib.hid hH
    clear hown hgrow hi hz0 hz1 hz2 hrow0 hT0 hH
    go_wp2
    go_loopw [5, 7] (fun mo i wr => ∃ (k : Nat) (hs : List Int) (g : Int), k ≤ n ∧ i = .int .i64 ((n : Int) - 1 - k) ∧ mo = .int .i64 g ∧ hFold os us (dnN n k) = some (hs, g) ∧ TSt w wr H n hs) (fun _ i _ => (intOf i + 1).toNat)
    case atStart => exact ⟨0, List.replicate n 0, 0, Nat.zero_le _, by simp, rfl, by rw [← HL.out]; rfl, HT0.out⟩
    case round =>
      obtain ⟨k, hs, g, hk, rfl, rfl, hf, hT⟩ := hrel
      by_cases hlt : k < n
      · obtain ⟨j, hj⟩ : ∃ j : Nat, j = n - 1 - k := ⟨_, rfl⟩
        have hji : (n : Int) - 1 - k = (j : Int) := by omega
        have hjn : j < n := by omega
        rw [hji]
        obtain ⟨hl, hbd, hg0, hg1⟩ := hFold_bound os us _ hs g hf
        rw [HL.out] at hl
        rw [dnN_len hk] at hbd hg1
        have hsu := dnN_succ hlt
        rw [← hj] at hsu
        have hF' : hFold os us (dnN n (k + 1)) = hStep os us (some (hs, g)) j := by rw [hsu, hFold_snoc, hf]
        obtain ⟨gu, ou, rfl, hcu⟩ := (hU.below hT.below (Nat.le_refl _)).look hjn
        obtain ⟨u, hu⟩ : ∃ u, us[j]?.getD 0 = u := ⟨_, rfl⟩
        rw [hu] at hcu
        have hug : us.getD j 0 = u := by rw [← hu]; simp
        have hT1 := hT.set j 1
        have hl1 : (hs.set j 1).length = n := by simpa using hl
        have hcu1 : (wr.setCell ⟨H, j, none⟩ (.int .i64 1)).cell? ⟨gu, ou + j, none⟩ = some (.int .i64 u) := by
          obtain ⟨g', o', e, hc'⟩ := (hU.below hT1.below (Nat.le_refl _)).look hjn
          cases e; rw [hc', hu]
        have hcH := hT.cell hl hjn
        have hfH : wr.frozen? ⟨H, j, none⟩ = false := World.ownsRow.frozenAt hT.row j
        have hcH1 : (wr.setCell ⟨H, j, none⟩ (.int .i64 1)).cell? ⟨H, j, none⟩ = some (.int .i64 1) := by have := hT1.cell hl1 hjn; simpa [hl, hjn] using this
        have hwj : IntKind.i64.wrap ((j : Int) + 1) = ((j + 1 : Nat) : Int) := by rw [IntKind.wrap_i64]; omega
        have hwm : IntKind.i64.wrap ((j : Int) - 1) = (j : Int) - 1 := by rw [IntKind.wrap_i64]; omega
        have HF' := Lib.hid hF'
        have HBD := Lib.hid hbd
        have HUG := Lib.hid hug
        have HT1 := Lib.hid hT1
        have HJ := Lib.hid hj
        have HJI := Lib.hid hji
        have HU := Lib.hid hu
        clear hF' hbd hug hT1 hj hji hu hsu hf hT
        by_cases hu0 : u = 0
        · subst hu0
          have hres : hFold os us (dnN n (k + 1)) = some (hs.set j 1, if g < 1 then 1 else g) := by
            rw [HF'.out]; unfold hStep; dsimp only; rw [if_pos HUG.out]
          have HRES := Lib.hid hres
          clear hres
          go_wp2
          refine wp_loop_rounds 1 ?_
          rw [rounds_succ]
          by_cases hg : g < 1
          · go_wp2
            all_goals exact ⟨⟨k + 1, hs.set j 1, 1, by omega, by have := HJI.out; congr 1; omega, rfl, by rw [HRES.out, if_pos hg], HT1.out⟩, by have := HJI.out; simp [intOf] <;> omega⟩
          · have hgm : ¬ g < 1 := hg
            go_wp2
            all_goals exact ⟨⟨k + 1, hs.set j 1, g, by omega, by have := HJI.out; congr 1; omega, rfl, by rw [HRES.out, if_neg hg], HT1.out⟩, by have := HJI.out; simp [intOf] <;> omega⟩
        · have hub : (u == 0) = false := by simpa using hu0
          go_wp2
          go_loopw [8, 9] (fun fo ki wq => ∃ p : Nat, j + 1 ≤ p ∧ p ≤ n ∧ ki = .int .i64 p ∧ ((fo = .bool false ∧ (∀ x, x < p - (j + 1) → (os.drop (j + 1)).getD x 0 ≠ u) ∧ TSt w wq H n (hs.set j 1)) ∨
            (fo = .bool true ∧ ∃ r, (os.drop (j + 1)).findIdx? (fun x => x == u) = some r ∧ r < n - (j + 1) ∧ TSt w wq H n ((hs.set j 1).set j (1 + (hs.set j 1).getD (j + 1 + r) 0))))) (fun _ ki _ => n - (intOf ki).toNat)
          case atStart => exact ⟨j + 1, Nat.le_refl _, by omega, rfl, .inl ⟨rfl, fun x hx => by omega, HT1.out⟩⟩
          case round =>
            obtain ⟨p, hp1, hp2, rfl, hcase⟩ := hrel
            rcases hcase with ⟨rfl, hno, hTq⟩ | ⟨rfl, r, hfr, hrn, hTq⟩
            · by_cases hpn : p < n
              · obtain ⟨ga, oa, rfl, hca⟩ := (hA.below hTq.below (Nat.le_refl _)).look hpn
                obtain ⟨gu2, ou2, e2, hcu2⟩ := (hU.below hTq.below (Nat.le_refl _)).look hjn
                cases e2
                rw [HU.out] at hcu2
                obtain ⟨v, hv⟩ : ∃ v, os[p]?.getD 0 = v := ⟨_, rfl⟩
                rw [hv] at hca
                have hdr : (os.drop (j + 1)).getD (p - (j + 1)) 0 = v := by
                  rw [← hv]; simp; congr 2; omega
                by_cases hvu : v = u
                · subst hvu
                  have hfd : (os.drop (j + 1)).findIdx? (fun x => x == v) = some (p - (j + 1)) := find_skip (by rw [List.length_drop, HL.out]; omega) hno hdr
                  have hcp := hTq.cell hl1 hpn
                  obtain ⟨y, hy⟩ : ∃ y, (hs.set j 1)[p]?.getD 0 = y := ⟨_, rfl⟩
                  rw [hy] at hcp
                  have hyb : 0 ≤ y ∧ y ≤ n := by
                    rw [← hy, ← List.getD_eq_getElem?_getD, set_getD, if_neg (by omega)]
                    have := HBD.out p
                    omega
                  have hcj := hTq.cell hl1 hjn
                  have hfj : wr.frozen? ⟨H, j, none⟩ = false := World.ownsRow.frozenAt hTq.row j
                  have HFD := Lib.hid hfd
                  have HTQ := Lib.hid hTq
                  have HY := Lib.hid hy
                  have hyw : IntKind.i64.wrap (y + 1) = y + 1 := by rw [IntKind.wrap_i64]; omega
                  clear hno hdr hfd hTq hy hv
                  go_wp2
                  go_quiet (fail)
                  go_wp2
                  refine ⟨?_, by simp [intOf]; omega⟩
                  refine ⟨p + 1, by omega, by omega, by go_num, .inr ⟨rfl, p - (j + 1), HFD.out, by omega, ?_⟩⟩
                  rw [show j + 1 + (p - (j + 1)) = p from by omega, List.getD_eq_getElem?_getD, HY.out, Int.add_comm 1 y]
                  exact (HTQ.out.drewN nq).set j (y + 1)
                · have hb : (v == u) = false := by simpa using hvu
                  have HNO := Lib.hid hno
                  have HDR := Lib.hid hdr
                  have HTQ := Lib.hid hTq
                  clear hno hdr hTq hv
                  go_wp2
                  go_quiet (fail)
                  go_wp2
                  refine ⟨?_, by simp [intOf]; omega⟩
                  refine ⟨p + 1, by omega, by omega, by go_num, .inl ⟨rfl, fun x hx => ?_, HTQ.out.drewN nq⟩⟩
                  by_cases hxp : x < p - (j + 1)
                  · exact HNO.out x hxp
                  · obtain rfl : x = p - (j + 1) := by omega
                    rw [HDR.out]; exact hvu
              · obtain rfl : p = n := by omega
                have hfd : (os.drop (j + 1)).findIdx? (fun x => x == u) = none := find_none (fun x hx => hno x (by rw [List.length_drop, HL.out] at hx; exact hx))
                have hres : hFold os us (dnN p (k + 1)) = none := by
                  rw [HF'.out]; unfold hStep; dsimp only; rw [if_neg (by rw [HUG.out]; exact hu0), HUG.out, hfd]
                have hres2 : treeH os us = 0 := treeH_none (k := k + 1) (by rw [HL.out]; omega) (by rw [HL.out]; exact hres)
                have HRES := Lib.hid hres2
                have HTQ := Lib.hid hTq
                clear hno hfd hres hres2 hTq
                go_wp2
                go_ret
                exact ⟨ret_int HRES.out.symm, HTQ.out.below⟩
            · obtain ⟨v, hv⟩ : ∃ v, (hs.set j 1).getD (j + 1 + r) 0 = v := ⟨_, rfl⟩
              rw [hv] at hTq
              have hvb : 0 ≤ v ∧ v ≤ n := by
                rw [← hv, set_getD, if_neg (by omega)]
                have := HBD.out (j + 1 + r)
                omega
              have hl2 : ((hs.set j 1).set j (1 + v)).length = n := by simpa using hl
              have hcj : wr.cell? ⟨H, j, none⟩ = some (.int .i64 (1 + v)) := by have := hTq.cell hl2 hjn; simpa [hl, hjn] using this
              have hres : hFold os us (dnN n (k + 1)) = some ((hs.set j 1).set j (1 + v), if g < 1 + v then 1 + v else g) := by
                rw [HF'.out]; unfold hStep; dsimp only; rw [if_neg (by rw [HUG.out]; exact hu0), HUG.out, hfr]; dsimp only; rw [hv]
              have HRES := Lib.hid hres
              have HTQ := Lib.hid hTq
              clear hres hfr hTq hv
              by_cases hg : g < 1 + v
              · go_wp2
                all_goals exact ⟨⟨k + 1, _, 1 + v, by omega, by have := HJI.out; congr 1; omega, rfl, by rw [HRES.out, if_pos hg], HTQ.out⟩, by have := HJI.out; simp [intOf] <;> omega⟩
              · go_wp2
                all_goals exact ⟨⟨k + 1, _, g, by omega, by have := HJI.out; congr 1; omega, rfl, by rw [HRES.out, if_neg hg], HTQ.out⟩, by have := HJI.out; simp [intOf] <;> omega⟩
      · obtain rfl : k = n := by omega
        have hmi : (k : Int) - 1 - k = -1 := by omega
        rw [hmi]
        have hres : treeH os us = g := treeH_some (HL.out.trans HM.out.symm) (by rw [HL.out]; exact h10) (hs := hs) (by rw [HL.out]; exact hf)
        have HRES := Lib.hid hres
        clear hres hf
        go_wp2
        go_ret
        exact ⟨ret_int HRES.out.symm, hT.below⟩
  · have hk : treeH os us = 0 := treeH_off (fun h => hok ⟨by have := HL.out; have := HM.out; omega, by have := HL.out; omega⟩)
    rw [hk]
    by_cases hnm : (n : Int) = (m : Int)
    · have h10 : (10 : Int) < (n : Int) := by omega
      go_enter Try.func4, Try.ntmps4
      go_wp2
      go_ret
      exact ⟨rfl, Below.refl _ _⟩
    · go_enter Try.func4, Try.ntmps4
      go_wp2
      go_ret
      exact ⟨rfl, Below.refl _ _⟩
end Go.Proofs.Ytgmgdbnfmlmicaa
