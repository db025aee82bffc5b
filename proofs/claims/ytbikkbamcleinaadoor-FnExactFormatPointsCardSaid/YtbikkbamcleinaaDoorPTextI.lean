/- FormatPoints of the program. Conditions: none. -/
import Derived.Test.YtbikkbamcleinaaDoorPText
namespace Go.Proofs.YtbikkbamcleinaaDoor
open Go.RowKit Nt Fr Nu Jn
set_option linter.unusedVariables false

set_option maxRecDepth 100000 in
set_option maxHeartbeats 20000000 in
theorem formatPoints_i (A : Option Addr) (n c : Nat) (zs : List Rc) (w : World) (hA : RArg 6 0 2 w A n zs) (hn : n ≤ 1048576) (hl : Laid1 w) :
    Calls Tryd.prog 7 #[.slice A n c] w fun e w' => e = .returned (.string (fmtPts (dats zs))) ∧ Below w.heap.size w w' := by
  have HA := Lib.hid hA
  have HL := Lib.hid (show (dats zs).length = n by rw [dats_len]; exact hA.row.len)
  clear hA
  have HLD := Lib.hid hl
  clear hl
  obtain ⟨R, hR⟩ : ∃ z, fmtPts (dats zs) = z := ⟨_, rfl⟩
  rw [hR]
  have HR := Lib.hid hR
  clear hR
  obtain ⟨i0, hi, hz0, hz1, hz2⟩ := info_parts infoStrP
  go_enter Tryd.func7, Tryd.ntmps7
  go_wp2
  go_loopw [3, 10] (fun v i wx => ∃ k : Nat, k ≤ n ∧ i = .int .i64 k ∧ wx.ownsRow w.heap.size 9 1 v (fpWords 0 ((dats zs).take k)).length ((fpWords 0 ((dats zs).take k)).map .string) ∧ Below w.heap.size w wx) (fun _ i _ => n - (intOf i).toNat)
  case atStart => exact ⟨0, Nat.zero_le _, rfl, World.ownsRow_nil _ _ _ _, Below.refl _ _⟩
  case round =>
    obtain ⟨k, hk, rfl, ho, hb⟩ := hrel
    have HB := Lib.hid hb
    have HO := Lib.hid ho
    clear hb ho
    by_cases hlt : k < n
    · obtain ⟨g, o, z, rfl, hg, hz, hr, hs, hc⟩ := (HA.out.below HB.out).at_q hlt
      obtain ⟨ZP, ZQ, a0, n0, c0, a1, n1, c1, a2, n2, c2, a3, n3, c3, rfl⟩ := Rc.shapesQ hs hr
      have HD := Lib.hid (show (dats zs)[k]? = some ([], [ZP, ZQ]) from datq_get hz)
      have HRA := Lib.hid hr
      obtain ⟨ti, hti⟩ : ∃ z, itoaB (k : Int) = z := ⟨_, rfl⟩
      obtain ⟨tp, htp⟩ : ∃ z, ZP.txt = z := ⟨_, rfl⟩
      obtain ⟨tq, htq⟩ : ∃ z, ZQ.txt = z := ⟨_, rfl⟩
      have hsi : ti.size ≤ 20 := by rw [← hti]; exact itoa_len (k : Int) (by omega) (by omega)
      have hsp : tp.size ≤ 1202 := by rw [← htp]; exact ptxt_size _
      have hsq : tq.size ≤ 1202 := by rw [← htq]; exact ptxt_size _
      have HTI := Lib.hid hti
      have HTP := Lib.hid htp
      have HTQ := Lib.hid htq
      have HPT := Lib.hid (show (ti ++ ⟨#[61]⟩ ++ tp ++ ⟨#[44]⟩ ++ tq) = fpTxt k (fpX ([], [ZP, ZQ])) (fpY ([], [ZP, ZQ])) by rw [← hti, ← htp, ← htq]; rfl)
      clear hti htp htq hz hr hs
      have hk0 : (0 : Int) ≤ (k : Int) := by omega
      have hk1 : (k : Int) < (n : Int) := by omega
      have hwl : (fpWords 0 ((dats zs).take k)).length ≤ 4194304 := by have := fpWords_len (dats zs) k; omega
      have e0 : wr.cell? ⟨g, o + k * 6, none⟩ = some (.bool ZP.s) := hc 0 _ rfl
      have e1 : wr.cell? ⟨g, o + k * 6 + 1, none⟩ = some ((.slice a0 n0 c0)) := hc 1 _ rfl
      have e2 : wr.cell? ⟨g, o + k * 6 + 2, none⟩ = some ((.slice a1 n1 c1)) := hc 2 _ rfl
      have e3 : wr.cell? ⟨g, o + k * 6 + 3, none⟩ = some (.bool ZQ.s) := hc 3 _ rfl
      have e4 : wr.cell? ⟨g, o + k * 6 + 4, none⟩ = some ((.slice a2 n2 c2)) := hc 4 _ rfl
      have e5 : wr.cell? ⟨g, o + k * 6 + 5, none⟩ = some ((.slice a3 n3 c3)) := hc 5 _ rfl
      clear hc
      obtain ⟨s1, hs1⟩ : ∃ z, ZP.ok = z := ⟨_, rfl⟩
      obtain ⟨s2, hs2⟩ : ∃ z, ZQ.ok = z := ⟨_, rfl⟩
      have H1 := Lib.hid hs1
      have H2 := Lib.hid hs2
      clear hs1 hs2
      have S_1 := Lib.hid (show St wr (wr.alloc (.cells #[.bool ZP.s, (.slice a0 n0 c0), (.slice a1 n1 c1), .bool ZQ.s, (.slice a2 n2 c2), (.slice a3 n3 c3)] 42)) [(wr.heap.size, [.bool ZP.s, (.slice a0 n0 c0), (.slice a1 n1 c1), .bool ZQ.s, (.slice a2 n2 c2), (.slice a3 n3 c3)])] [] from (St.start wr).alloc [.bool ZP.s, (.slice a0 n0 c0), (.slice a1 n1 c1), .bool ZQ.s, (.slice a2 n2 c2), (.slice a3 n3 c3)] 42)
      have HLDR := Lib.hid (HLD.out.below HB.out)
      have hk_p_0_1 := S_1.out.cell 0 0 rfl rfl
      have hk_p_1_1 := S_1.out.cell 0 1 rfl rfl
      have hk_p_2_1 := S_1.out.cell 0 2 rfl rfl
      have hk_p_3_1 := S_1.out.cell 0 3 rfl rfl
      have hk_p_4_1 := S_1.out.cell 0 4 rfl rfl
      have hk_p_5_1 := S_1.out.cell 0 5 rfl rfl
      go_wp2
      clear hk_p_0_1 hk_p_1_1 hk_p_2_1 hk_p_3_1 hk_p_4_1 hk_p_5_1
      have mkS_2 : ∀ (w' : World) (bs' : List (Nat × List Value)) (cs' : List Chunk), St wr w' ((wr.heap.size, [.bool ZP.s, (.slice a0 n0 c0), (.slice a1 n1 c1), .bool ZQ.s, (.slice a2 n2 c2), (.slice a3 n3 c3)]) :: bs') cs' → w'.cell? ⟨wr.heap.size, 0, none⟩ = some (.bool ZP.s) ∧ w'.cell? ⟨wr.heap.size, 1, none⟩ = some ((.slice a0 n0 c0)) ∧ w'.cell? ⟨wr.heap.size, 2, none⟩ = some ((.slice a1 n1 c1)) ∧ w'.cell? ⟨wr.heap.size, 3, none⟩ = some (.bool ZQ.s) ∧ w'.cell? ⟨wr.heap.size, 4, none⟩ = some ((.slice a2 n2 c2)) ∧ w'.cell? ⟨wr.heap.size, 5, none⟩ = some ((.slice a3 n3 c3)) := fun w' bs' cs' h => ⟨h.cell 0 0 rfl rfl, h.cell 0 1 rfl rfl, h.cell 0 2 rfl rfl, h.cell 0 3 rfl rfl, h.cell 0 4 rfl rfl, h.cell 0 5 rfl rfl⟩
      have SS := Lib.hid S_1.out.drew
      refine wp_region_noPanic ?_
      refine wp_region_held_drew (S := (fun w' => w'.cell? ⟨wr.heap.size, 0, none⟩ = some (.bool ZP.s) ∧ w'.cell? ⟨wr.heap.size, 1, none⟩ = some ((.slice a0 n0 c0)) ∧ w'.cell? ⟨wr.heap.size, 2, none⟩ = some ((.slice a1 n1 c1)) ∧ w'.cell? ⟨wr.heap.size, 3, none⟩ = some (.bool ZQ.s) ∧ w'.cell? ⟨wr.heap.size, 4, none⟩ = some ((.slice a2 n2 c2)) ∧ w'.cell? ⟨wr.heap.size, 5, none⟩ = some ((.slice a3 n3 c3)))) (by kernel_rfl) ?_ (fun hHeld => ?_)
      · exact mkS_2 _ _ _ SS.out
      refine tkH 0 ?_ ⟨some 15, .fieldAddr 42 (.tmp 5) 0, 0, "l11_batch.go:93", #[], none⟩ ?_ ?_
      rotate_left
      · intro w9 hSw; (try dsimp only at hSw); go_simp; try with_reducible rfl
      try simp only [pm, s0, sS]
      refine tkH 1 ?_ ⟨some 16, .load 40 (.tmp 15), 40, "l11_batch.go:93", #[⟨0, .data⟩], none⟩ ?_ ?_
      rotate_left
      · intro w9 hSw; (try dsimp only at hSw); go_simp; try with_reducible rfl
      try simp only [pm, s0, sS]
      refine tkH 3 ?_ ⟨some 18, .fieldAddr 42 (.tmp 5) 1, 0, "l11_batch.go:93", #[], none⟩ ?_ ?_
      rotate_left
      · intro w9 hSw; (try dsimp only at hSw); go_simp; try with_reducible rfl
      try simp only [pm, s0, sS]
      refine tkH 4 ?_ ⟨some 19, .load 40 (.tmp 18), 40, "l11_batch.go:93", #[⟨3, .data⟩], none⟩ ?_ ?_
      rotate_left
      · intro w9 hSw; (try dsimp only at hSw); go_simp; try with_reducible rfl
      try simp only [pm, s0, sS]
      refine wpAnyH_ready (rs := [2]) (by kernel_rfl) (by simp) ?_
      refine AllReadyH.cons (o := ⟨some 17, .call { callee := .value (.func 15), args := #[.tmp 16], argTypes := #[40] }, 9, "l11_batch.go:93", #[⟨1, .data⟩], none⟩) rfl (fun K hK => ?_) ?_
      go_simp
      go_at_call_of 15 (Value.agg #[Value.bool ZP.s, (Value.slice a0 n0 c0), (Value.slice a1 n1 c1)])
      refine (formatRat_i ZP (.slice a0 n0 c0) (.slice a1 n1 c1) _ (show FrA _ _ _ _ from (HRA.out (ZP, .slice a0 n0 c0, .slice a1 n1 c1) (by simp)).below SS.out.below) (HLDR.out.below SS.out.below)).mono ?_
      rintro e vr0 ⟨rfl, hb⟩
      rw [HTP.out]
      have SX := Lib.hid (SS.out.call hb)
      clear SS
      have SS := Lib.hid SX.out
      clear SX
      clear hb
      refine hK.out _ _ (mkS_2 _ _ _ SS.out) (fun hHeld => ?_)
      clear hK K
      try simp only [pm, s0, sS]
      refine wpAnyH_ready (rs := [5]) (by kernel_rfl) (by simp) ?_
      refine AllReadyH.cons (o := ⟨some 20, .call { callee := .value (.func 15), args := #[.tmp 19], argTypes := #[40] }, 9, "l11_batch.go:93", #[⟨4, .data⟩, ⟨2, .chain⟩], none⟩) rfl (fun K hK => ?_) ?_
      go_simp
      go_at_call_of 15 (Value.agg #[Value.bool ZQ.s, (Value.slice a2 n2 c2), (Value.slice a3 n3 c3)])
      refine (formatRat_i ZQ (.slice a2 n2 c2) (.slice a3 n3 c3) _ (show FrA _ _ _ _ from (HRA.out (ZQ, .slice a2 n2 c2, .slice a3 n3 c3) (by simp)).below SS.out.below) (HLDR.out.below SS.out.below)).mono ?_
      rintro e vr1 ⟨rfl, hb⟩
      rw [HTQ.out]
      have SX := Lib.hid (SS.out.call hb)
      clear SS
      have SS := Lib.hid SX.out
      clear SX
      clear hb
      refine hK.out _ _ (mkS_2 _ _ _ SS.out) (fun hHeld => ?_)
      clear hK K
      try simp only [pm, s0, sS]
      refine tkH 6 ?_ ⟨some 6, .assign (.tmp 17), 9, "l11_batch.go:93", #[⟨2, .data⟩, ⟨5, .chain⟩, ⟨0, .phase⟩, ⟨1, .phase⟩, ⟨2, .phase⟩, ⟨3, .textOnly .lateStores⟩, ⟨4, .textOnly .lateStores⟩, ⟨5, .textOnly .lateStoresUnsure⟩], none⟩ ?_ ?_
      rotate_left
      · intro w9 hSw; (try dsimp only at hSw); go_simp; try with_reducible rfl
      try simp only [pm, s0, sS]
      refine tkH 7 ?_ ⟨some 7, .assign (.tmp 20), 9, "l11_batch.go:93", #[⟨5, .data⟩, ⟨6, .chain⟩, ⟨0, .phase⟩, ⟨1, .phase⟩, ⟨2, .phase⟩, ⟨3, .phase⟩, ⟨4, .phase⟩, ⟨5, .phase⟩, ⟨6, .phase⟩], none⟩ ?_ ?_
      rotate_left
      · intro w9 hSw; (try dsimp only at hSw); go_simp; try with_reducible rfl
      try simp only [pm, s0, sS]
      rotate_left
      exact AllReadyH.nil
      exact AllReadyH.nil
      all_goals
        (refine wpAnyH_done (by kernel_rfl) ?_ _
         refine NoPanic.normal ?_)
      by_cases k1 : s1 = true
      · subst k1
        have hp1 : tp ≠ ⟨#[]⟩ := by rw [← HTP.out]; exact txt_ne H1.out
        have hp2 : ¬ tp.toList = [] := by rw [ByteArray.toList_eq]; intro e; exact hp1 (bytes_ext (by rw [e]))
        have hp3 : tp.toList.isEmpty = false := by cases h : tp.toList with | nil => exact absurd h hp2 | cons x r => rfl
        by_cases k2 : s2 = true
        · subst k2
          have hq1 : tq ≠ ⟨#[]⟩ := by rw [← HTQ.out]; exact txt_ne H2.out
          have hq2 : ¬ tq.toList = [] := by rw [ByteArray.toList_eq]; intro e; exact hq1 (bytes_ext (by rw [e]))
          have hq3 : tq.toList.isEmpty = false := by cases h : tq.toList with | nil => exact absurd h hq2 | cons x r => rfl
          go_wp2_with fail
          refine (formatInt_impl (k : Int) _ (by omega) (by omega) (HLDR.out.below SS.out.below)).mono ?_
          rintro e u1 ⟨rfl, hb⟩
          have S_3 := Lib.hid (SS.out.call hb)
          clear SS
          clear hb
          rw [HTI.out]
          go_wp2_with fail
          have S_4 := Lib.hid (S_3.out.alloc [.string tp, .string tq] 9)
          clear S_3
          have hne_p_x := S_4.out.ne 1 0 rfl rfl (by decide)
          have hne_x_p := S_4.out.ne 0 1 rfl rfl (by decide)
          refine (joinAll_any _ 2 2 ⟨#[44]⟩ [tp, tq] _ (vrow2 u1 _ _ _) (by omega) (by decide) (by show 2 + (tp.size + (tq.size + 0)) ≤ _; omega) (by omega)).mono ?_
          rintro e u2 ⟨rfl, hb⟩
          have S_5 := Lib.hid (S_4.out.call hb)
          clear S_4
          clear hb
          rw [join2]
          obtain ⟨tj, htj⟩ : ∃ z, tp ++ ⟨#[44]⟩ ++ tq = z := ⟨_, rfl⟩
          have hsj : tj.size ≤ 2405 := by rw [← htj]; simp only [ByteArray.size_append, pone_byte]; omega
          rw [htj]
          go_wp2_with fail
          have S_6 := Lib.hid (S_5.out.alloc [.string ti, .string tj] 9)
          clear S_5
          have hne_x_y := S_6.out.ne 1 0 rfl rfl (by decide)
          have hne_y_x := S_6.out.ne 0 1 rfl rfl (by decide)
          have hne_p_y := S_6.out.ne 2 0 rfl rfl (by decide)
          have hne_y_p := S_6.out.ne 0 2 rfl rfl (by decide)
          refine (joinAll_any _ 2 2 ⟨#[61]⟩ [ti, tj] _ (vrow2 u2 _ _ _) (by omega) (by decide) (by show 2 + (ti.size + (tj.size + 0)) ≤ _; omega) (by omega)).mono ?_
          rintro e u3 ⟨rfl, hb⟩
          have S_7 := Lib.hid (S_6.out.call hb)
          clear S_6
          clear hb
          rw [join2]
          obtain ⟨tw, htw⟩ : ∃ z, ti ++ ⟨#[61]⟩ ++ tj = z := ⟨_, rfl⟩
          rw [htw]
          have HTW := Lib.hid (show (ti ++ ⟨#[61]⟩ ++ tp ++ ⟨#[44]⟩ ++ tq) = tw by rw [← htw, ← htj]; apply bytes_ext; simp)
          clear htw
          have HO3 := Lib.hid (own_below HO.out S_7.out.below)
          have HB3 := Lib.hid (HB.out.trans (S_7.out.below.mono HB.out.size))
          have HCELL := Lib.hid (show (u3.alloc (.cells #[.string tw] 9)).cell? ⟨u3.heap.size, 0, none⟩ = some (.string tw) from by simp)
          go_wp2_with (at_builtin; refine wpList_append_own _ rfl (.tmp 27) (.tmp 36) 37 rfl w.heap.size 9 i0 _ 1 16 Tryd.underlying37 hi hz0 hz1 hz2 rfl (by decide) _ (fpWords 0 ((dats zs).take k)).length ((fpWords 0 ((dats zs).take k)).map .string) rfl (own_below HO3.out ((Below.refl _ _).alloc (Nat.le_refl _) _)) ⟨u3.heap.size, 0, none⟩ 1 1 [.string tw] rfl rfl (by intro j u hj; match j, hj with | 0, hj => simp at hj; subst hj; exact HCELL.out) (by simp [Value.oneCell']) (by unfold maxLen; omega) (by omega) (by have := HB3.out.size; simp; omega) ?_; intro v9 w9 ho9 hg9 _)
          have HO9 := Lib.hid ho9
          have HB9 := Lib.hid ((HB3.out.alloc HB3.out.size (.cells #[.string tw] 9)).grown hg9 (by have := HB3.out.size; simp; omega) (fun q hq => (HO.out.lt q hq).1))
          clear ho9 hg9
          go_wp2
          refine ⟨⟨k + 1, by omega, by go_num, ?_, HB9.out⟩, by simp [intOf]; omega⟩
          have h := HO9.out
          rw [fpWords_step HD.out, show fpOk ([], [ZP, ZQ]) = true from by show (ZP.ok && ZQ.ok) = true; rw [H1.out, H2.out]; rfl, if_pos rfl, List.length_append, List.map_append, ← HPT.out, HTW.out]
          exact h
        · rw [Bool.not_eq_true] at k2
          subst k2
          obtain rfl : ⟨#[]⟩ = tq := by rw [← HTQ.out]; exact (txt_none H2.out).symm
          have HN := Lib.hid (show fpOk ([], [ZP, ZQ]) = false from (by show (ZP.ok && ZQ.ok) = false; rw [H1.out, H2.out]; rfl))
          have HBN := Lib.hid (HB.out.trans (SS.out.below.mono HB.out.size))
          go_wp2
          refine ⟨⟨k + 1, by omega, by go_num, ?_, HBN.out⟩, by simp [intOf]; omega⟩
          rw [fpWords_step HD.out, HN.out, if_neg (by decide), List.append_nil]
          exact own_below HO.out SS.out.below
      · rw [Bool.not_eq_true] at k1
        subst k1
        obtain rfl : ⟨#[]⟩ = tp := by rw [← HTP.out]; exact (txt_none H1.out).symm
        have HN := Lib.hid (show fpOk ([], [ZP, ZQ]) = false from (by show (ZP.ok && ZQ.ok) = false; rw [H1.out]; rfl))
        have HBN := Lib.hid (HB.out.trans (SS.out.below.mono HB.out.size))
        go_wp2
        refine ⟨⟨k + 1, by omega, by go_num, ?_, HBN.out⟩, by simp [intOf]; omega⟩
        rw [fpWords_step HD.out, HN.out, if_neg (by decide), List.append_nil]
        exact own_below HO.out SS.out.below
    · obtain rfl : k = n := by omega
      obtain ⟨Aw, cw, rfl⟩ := own_shape HO.out
      have hrow := VRow.of_own HO.out
      have hcap := own_cap HO.out
      have hlen := fpWords_len (dats zs) k
      have htot := fpWords_total (dats zs) k hn
      have HROW := Lib.hid hrow
      have HE := Lib.hid (show join ⟨#[32]⟩ (fpWords 0 ((dats zs).take k)) = R by rw [← HR.out]; exact fmtPts_all HL.out)
      clear hrow
      go_wp2_with fail
      refine (join_implW Aw (fpWords 0 ((dats zs).take k)).length cw ⟨#[32]⟩ (fpWords 0 ((dats zs).take k)) _ HROW.out hcap.1 (by decide) (by omega) (by omega)).mono ?_
      rintro e w9 ⟨rfl, hb⟩
      have HB9 := Lib.hid (HB.out.trans (hb.mono HB.out.size))
      clear hb
      rw [HE.out]
      go_wp2
      go_ret
      exact ⟨rfl, HB9.out⟩
end Go.Proofs.YtbikkbamcleinaaDoor
