/- FormatConditional of the program. Conditions: none. -/
import Derived.Test.YtdchhkpkkfjibaaGreatDoorCText
namespace Go.Proofs.YtdchhkpkkfjibaaGreatDoor
open Go.RowKit Nt Fr Nu Jn
set_option linter.unusedVariables false

set_option maxRecDepth 100000 in
set_option maxHeartbeats 4000000 in
theorem formatConditional_i (N : Int) (T : Fr) (t0 t1 : Value) (A : Option Addr) (n c : Nat) (zs : List Rc) (w : World) (hT : FrA w T t0 t1) (hA : PaArg w A n zs) (hn : n ≤ 1048576) (hl : Laid1 w) :
    Calls Tryz.prog 7 #[.agg #[.int .i64 N, .bool T.s, t0, t1, .slice A n c]] w fun e w' => e = .returned (.string (fmtC N T (dats zs))) ∧ Below w.heap.size w w' := by
  obtain ⟨Aa, na, ca, Ba, ma, da, rfl, rfl⟩ := hT.shape
  have HT := Lib.hid hT
  have HA := Lib.hid hA
  have HL := Lib.hid (show (dats zs).length = n by rw [dats_len]; exact hA.row.len)
  clear hT hA
  have HLD := Lib.hid hl
  clear hl
  obtain ⟨R, hR⟩ : ∃ z, fmtC N T (dats zs) = z := ⟨_, rfl⟩
  rw [hR]
  have HR := Lib.hid hR
  clear hR
  have S_1 := Lib.hid (show St w (w.alloc (.cells #[.int .i64 N, .bool T.s, (.slice Aa na ca), (.slice Ba ma da), (.slice A n c)] 37)) [(w.heap.size, [.int .i64 N, .bool T.s, (.slice Aa na ca), (.slice Ba ma da), (.slice A n c)])] [] from ((St.start w).alloc_at (b := w.heap.size) [.int .i64 N, .bool T.s, (.slice Aa na ca), (.slice Ba ma da), (.slice A n c)] 37 (by first | rfl | simp)))
  go_enter Tryz.func7, Tryz.ntmps7
  go_wp2_with fail
  refine (isValidConditional_i N T (.slice Aa na ca) (.slice Ba ma da) A n c zs _ (S_1.out.frA HT.out) (HA.out.below S_1.out.below) hn).mono ?_
  rintro e w1 ⟨rfl, hb⟩
  have S_2 := Lib.hid (S_1.out.call hb)
  clear S_1
  clear hb
  by_cases hok : okC N T (dats zs) = true
  · rw [hok]
    have HOK := Lib.hid hok
    have hv := okC_self hok
    have hfew := okC_few hok
    rw [HL.out] at hfew
    clear hok
    obtain ⟨tn, htn⟩ : ∃ z, itoaB N = z := ⟨_, rfl⟩
    obtain ⟨tt, htt⟩ : ∃ z, T.txt = z := ⟨_, rfl⟩
    have hsn : tn.size ≤ 20 := by rw [← htn]; exact itoa_len N (by omega) (by omega)
    have hst9 : tt.size ≤ 1202 := by rw [← htt]; exact txt_size T
    have HTN := Lib.hid htn
    have HTT := Lib.hid htt
    have HV := Lib.hid hv
    clear htn htt hv
    have hk_c_0_2 := S_2.out.cell 0 0 rfl rfl
    have hk_c_1_2 := S_2.out.cell 0 1 rfl rfl
    have hk_c_2_2 := S_2.out.cell 0 2 rfl rfl
    have hk_c_3_2 := S_2.out.cell 0 3 rfl rfl
    have hk_c_4_2 := S_2.out.cell 0 4 rfl rfl
    go_wp2
    go_region_held3 (fun w' => w'.cell? ⟨w.heap.size, 0, none⟩ = some (.int .i64 N) ∧ w'.cell? ⟨w.heap.size, 1, none⟩ = some (.bool T.s) ∧ w'.cell? ⟨w.heap.size, 2, none⟩ = some ((.slice Aa na ca)) ∧ w'.cell? ⟨w.heap.size, 3, none⟩ = some ((.slice Ba ma da)) ∧ w'.cell? ⟨w.heap.size, 4, none⟩ = some ((.slice A n c))) (go_keep)
      (first
        | (go_at_call_of 17 (Value.int .i64 N)
           refine (formatInt_impl N _ (by have := HV.out; omega) (by have := HV.out; omega) (HLD.out.below S_2.out.drew.below)).mono ?_
           rintro e wi ⟨rfl, hb⟩
           rw [HTN.out]
           have S_3 := Lib.hid (S_2.out.drew.call hb)
           clear S_2 hb
           have hk_c_0_3 := S_3.out.cell 0 0 rfl rfl
           have hk_c_1_3 := S_3.out.cell 0 1 rfl rfl
           have hk_c_2_3 := S_3.out.cell 0 2 rfl rfl
           have hk_c_3_3 := S_3.out.cell 0 3 rfl rfl
           have hk_c_4_3 := S_3.out.cell 0 4 rfl rfl)
        | (go_at_call_of 18 (Value.agg #[Value.bool T.s, (Value.slice Aa na ca), (Value.slice Ba ma da)])
           refine (formatRat_i T (.slice Aa na ca) (.slice Ba ma da) _ (S_3.out.frA HT.out) (HLD.out.below S_3.out.below)).mono ?_
           rintro e wr ⟨rfl, hb⟩
           rw [HTT.out]
           have S_4 := Lib.hid (S_3.out.call hb)
           clear S_3 hb
           have hk_c_0_4 := S_4.out.cell 0 0 rfl rfl
           have hk_c_1_4 := S_4.out.cell 0 1 rfl rfl
           have hk_c_2_4 := S_4.out.cell 0 2 rfl rfl
           have hk_c_3_4 := S_4.out.cell 0 3 rfl rfl
           have hk_c_4_4 := S_4.out.cell 0 4 rfl rfl))
    have hk_c_0_4 := S_4.out.cell 0 0 rfl rfl
    have hk_c_1_4 := S_4.out.cell 0 1 rfl rfl
    have hk_c_2_4 := S_4.out.cell 0 2 rfl rfl
    have hk_c_3_4 := S_4.out.cell 0 3 rfl rfl
    have hk_c_4_4 := S_4.out.cell 0 4 rfl rfl
    go_wp2
    clear hk_c_0_4 hk_c_1_4 hk_c_2_4 hk_c_3_4 hk_c_4_4
    obtain ⟨i0, hi, hz0, hz1, hz2⟩ := info_parts infoStr
    have O_0 := Lib.hid (own_made2 wr 9 (.string tn) (.string tt))
    have B_0 := Lib.hid (show Below w.heap.size w (wr.alloc (.cells #[.string tn, .string tt] 9)) from S_4.out.below.alloc S_4.out.below.size _)
    have hbw := S_4.out.below.size
    clear S_4
    go_loopw [19, 3] (fun i v wx => ∃ k : Nat, k ≤ n ∧ i = .int .i64 k ∧ wx.ownsRow w.heap.size 9 1 v (2 + k) ((wordsT N T ((dats zs).take k)).map .string) ∧ Below w.heap.size w wx) (fun i _ _ => n - (intOf i).toNat)
    case atStart => exact ⟨0, Nat.zero_le _, rfl, by have h := own_base O_0.out hbw; simpa [wordsT, HTN.out, HTT.out] using h, B_0.out⟩
    case round =>
      obtain ⟨k, hk, rfl, ho, hb⟩ := hrel
      have HB := Lib.hid hb
      have HO := Lib.hid ho
      clear hb ho
      by_cases hlt : k < n
      · obtain ⟨g, o, z, rfl, hg, hz, hr, hs, hc⟩ := (HA.out.below HB.out).at_ hlt
        obtain ⟨ZA, ZP, ZQ, ZR, a0, n0, c0, a1, n1, c1, a2, n2, c2, a3, n3, c3, a4, n4, c4, a5, n5, c5, rfl⟩ := Rc.shapes13 hs hr
        have hd := dats_get hz
        have hnd := okC_node HOK.out hd
        have HD := Lib.hid hd
        have HND := Lib.hid hnd
        have HRA := Lib.hid hr
        obtain ⟨ti, hti⟩ : ∃ z, itoaB ZA = z := ⟨_, rfl⟩
        obtain ⟨tp, htp⟩ : ∃ z, ZP.txt = z := ⟨_, rfl⟩
        obtain ⟨tq, htq⟩ : ∃ z, ZQ.txt = z := ⟨_, rfl⟩
        obtain ⟨tr, htr⟩ : ∃ z, ZR.txt = z := ⟨_, rfl⟩
        have hza : 0 ≤ ZA ∧ ZA < 10 := hnd
        have hsi : ti.size ≤ 20 := by rw [← hti]; exact itoa_len ZA (by omega) (by omega)
        have hsp : tp.size ≤ 1202 := by rw [← htp]; exact txt_size _
        have hsq : tq.size ≤ 1202 := by rw [← htq]; exact txt_size _
        have hsr : tr.size ≤ 1202 := by rw [← htr]; exact txt_size _
        have HTI := Lib.hid hti
        have HTp := Lib.hid htp
        have HTq := Lib.hid htq
        have HTr := Lib.hid htr
        have HZA := Lib.hid hza
        clear hti htp htq htr hza hnd hd hz hr hs
        have e0 : wr.cell? ⟨g, o + k * 10, none⟩ = some (.int .i64 ZA) := hc 0 _ rfl
        have e1 : wr.cell? ⟨g, o + k * 10 + 1, none⟩ = some (.bool ZP.s) := hc 1 _ rfl
        have e2 : wr.cell? ⟨g, o + k * 10 + 2, none⟩ = some ((.slice a0 n0 c0)) := hc 2 _ rfl
        have e3 : wr.cell? ⟨g, o + k * 10 + 3, none⟩ = some ((.slice a1 n1 c1)) := hc 3 _ rfl
        have e4 : wr.cell? ⟨g, o + k * 10 + 4, none⟩ = some (.bool ZQ.s) := hc 4 _ rfl
        have e5 : wr.cell? ⟨g, o + k * 10 + 5, none⟩ = some ((.slice a2 n2 c2)) := hc 5 _ rfl
        have e6 : wr.cell? ⟨g, o + k * 10 + 6, none⟩ = some ((.slice a3 n3 c3)) := hc 6 _ rfl
        have e7 : wr.cell? ⟨g, o + k * 10 + 7, none⟩ = some (.bool ZR.s) := hc 7 _ rfl
        have e8 : wr.cell? ⟨g, o + k * 10 + 8, none⟩ = some ((.slice a4 n4 c4)) := hc 8 _ rfl
        have e9 : wr.cell? ⟨g, o + k * 10 + 9, none⟩ = some ((.slice a5 n5 c5)) := hc 9 _ rfl
        clear hc
        have S_5 := Lib.hid (show St wr (wr.alloc (.cells #[.int .i64 ZA, .bool ZP.s, (.slice a0 n0 c0), (.slice a1 n1 c1), .bool ZQ.s, (.slice a2 n2 c2), (.slice a3 n3 c3), .bool ZR.s, (.slice a4 n4 c4), (.slice a5 n5 c5)] 47)) [(wr.heap.size, [.int .i64 ZA, .bool ZP.s, (.slice a0 n0 c0), (.slice a1 n1 c1), .bool ZQ.s, (.slice a2 n2 c2), (.slice a3 n3 c3), .bool ZR.s, (.slice a4 n4 c4), (.slice a5 n5 c5)])] [] from (St.start wr).alloc [.int .i64 ZA, .bool ZP.s, (.slice a0 n0 c0), (.slice a1 n1 c1), .bool ZQ.s, (.slice a2 n2 c2), (.slice a3 n3 c3), .bool ZR.s, (.slice a4 n4 c4), (.slice a5 n5 c5)] 47)
        have HLDR := Lib.hid (HLD.out.below HB.out)
        have HPT := Lib.hid (show ti ++ ⟨#[58]⟩ ++ tp ++ ⟨#[58]⟩ ++ tq ++ ⟨#[58]⟩ ++ tr = parTxt (Rc.dat ⟨[ZA], [(ZP, .slice a0 n0 c0, .slice a1 n1 c1), (ZQ, .slice a2 n2 c2, .slice a3 n3 c3), (ZR, .slice a4 n4 c4, .slice a5 n5 c5)]⟩) by rw [← HTI.out, ← HTp.out, ← HTq.out, ← HTr.out]; rfl)
        have hk_p_0_5 := S_5.out.cell 0 0 rfl rfl
        have hk_p_1_5 := S_5.out.cell 0 1 rfl rfl
        have hk_p_2_5 := S_5.out.cell 0 2 rfl rfl
        have hk_p_3_5 := S_5.out.cell 0 3 rfl rfl
        have hk_p_4_5 := S_5.out.cell 0 4 rfl rfl
        have hk_p_5_5 := S_5.out.cell 0 5 rfl rfl
        have hk_p_6_5 := S_5.out.cell 0 6 rfl rfl
        have hk_p_7_5 := S_5.out.cell 0 7 rfl rfl
        have hk_p_8_5 := S_5.out.cell 0 8 rfl rfl
        have hk_p_9_5 := S_5.out.cell 0 9 rfl rfl
        go_wp2
        clear hk_p_0_5 hk_p_1_5 hk_p_2_5 hk_p_3_5 hk_p_4_5 hk_p_5_5 hk_p_6_5 hk_p_7_5 hk_p_8_5 hk_p_9_5
        have mkS_6 : ∀ (w' : World) (bs' : List (Nat × List Value)) (cs' : List Chunk), St wr w' ((wr.heap.size, [.int .i64 ZA, .bool ZP.s, (.slice a0 n0 c0), (.slice a1 n1 c1), .bool ZQ.s, (.slice a2 n2 c2), (.slice a3 n3 c3), .bool ZR.s, (.slice a4 n4 c4), (.slice a5 n5 c5)]) :: bs') cs' → w'.cell? ⟨wr.heap.size, 0, none⟩ = some (.int .i64 ZA) ∧ w'.cell? ⟨wr.heap.size, 1, none⟩ = some (.bool ZP.s) ∧ w'.cell? ⟨wr.heap.size, 2, none⟩ = some ((.slice a0 n0 c0)) ∧ w'.cell? ⟨wr.heap.size, 3, none⟩ = some ((.slice a1 n1 c1)) ∧ w'.cell? ⟨wr.heap.size, 4, none⟩ = some (.bool ZQ.s) ∧ w'.cell? ⟨wr.heap.size, 5, none⟩ = some ((.slice a2 n2 c2)) ∧ w'.cell? ⟨wr.heap.size, 6, none⟩ = some ((.slice a3 n3 c3)) ∧ w'.cell? ⟨wr.heap.size, 7, none⟩ = some (.bool ZR.s) ∧ w'.cell? ⟨wr.heap.size, 8, none⟩ = some ((.slice a4 n4 c4)) ∧ w'.cell? ⟨wr.heap.size, 9, none⟩ = some ((.slice a5 n5 c5)) := fun w' bs' cs' h => ⟨h.cell 0 0 rfl rfl, h.cell 0 1 rfl rfl, h.cell 0 2 rfl rfl, h.cell 0 3 rfl rfl, h.cell 0 4 rfl rfl, h.cell 0 5 rfl rfl, h.cell 0 6 rfl rfl, h.cell 0 7 rfl rfl, h.cell 0 8 rfl rfl, h.cell 0 9 rfl rfl⟩
        have SS := Lib.hid S_5.out.drew
        refine wp_region_noPanic ?_
        refine wp_region_held_drew (S := (fun w' => w'.cell? ⟨wr.heap.size, 0, none⟩ = some (.int .i64 ZA) ∧ w'.cell? ⟨wr.heap.size, 1, none⟩ = some (.bool ZP.s) ∧ w'.cell? ⟨wr.heap.size, 2, none⟩ = some ((.slice a0 n0 c0)) ∧ w'.cell? ⟨wr.heap.size, 3, none⟩ = some ((.slice a1 n1 c1)) ∧ w'.cell? ⟨wr.heap.size, 4, none⟩ = some (.bool ZQ.s) ∧ w'.cell? ⟨wr.heap.size, 5, none⟩ = some ((.slice a2 n2 c2)) ∧ w'.cell? ⟨wr.heap.size, 6, none⟩ = some ((.slice a3 n3 c3)) ∧ w'.cell? ⟨wr.heap.size, 7, none⟩ = some (.bool ZR.s) ∧ w'.cell? ⟨wr.heap.size, 8, none⟩ = some ((.slice a4 n4 c4)) ∧ w'.cell? ⟨wr.heap.size, 9, none⟩ = some ((.slice a5 n5 c5)))) (by kernel_rfl) ?_ (fun hHeld => ?_)
        · exact mkS_6 _ _ _ SS.out
        refine tkH 0 ?_ ⟨some 23, .move (.tmp 3), 50, "l08_star.go:104", #[], none⟩ ?_ ?_
        rotate_left
        · intro w9 hSw; (try dsimp only at hSw); go_simp; try with_reducible rfl
        try simp only [pm, s0, sS]
        refine tkH 1 ?_ ⟨some 24, .fieldAddr 47 (.tmp 5) 0, 0, "l08_star.go:104", #[], none⟩ ?_ ?_
        rotate_left
        · intro w9 hSw; (try dsimp only at hSw); go_simp; try with_reducible rfl
        try simp only [pm, s0, sS]
        refine tkH 2 ?_ ⟨some 25, .load 3 (.tmp 24), 3, "l08_star.go:104", #[⟨1, .data⟩], none⟩ ?_ ?_
        rotate_left
        · intro w9 hSw; (try dsimp only at hSw); go_simp; try with_reducible rfl
        try simp only [pm, s0, sS]
        refine tkH 4 ?_ ⟨some 27, .fieldAddr 47 (.tmp 5) 1, 0, "l08_star.go:104", #[], none⟩ ?_ ?_
        rotate_left
        · intro w9 hSw; (try dsimp only at hSw); go_simp; try with_reducible rfl
        try simp only [pm, s0, sS]
        refine tkH 5 ?_ ⟨some 28, .load 34 (.tmp 27), 34, "l08_star.go:104", #[⟨4, .data⟩], none⟩ ?_ ?_
        rotate_left
        · intro w9 hSw; (try dsimp only at hSw); go_simp; try with_reducible rfl
        try simp only [pm, s0, sS]
        refine tkH 7 ?_ ⟨some 30, .fieldAddr 47 (.tmp 5) 2, 0, "l08_star.go:104", #[], none⟩ ?_ ?_
        rotate_left
        · intro w9 hSw; (try dsimp only at hSw); go_simp; try with_reducible rfl
        try simp only [pm, s0, sS]
        refine tkH 8 ?_ ⟨some 31, .load 34 (.tmp 30), 34, "l08_star.go:104", #[⟨7, .data⟩], none⟩ ?_ ?_
        rotate_left
        · intro w9 hSw; (try dsimp only at hSw); go_simp; try with_reducible rfl
        try simp only [pm, s0, sS]
        refine tkH 10 ?_ ⟨some 33, .fieldAddr 47 (.tmp 5) 3, 0, "l08_star.go:104", #[], none⟩ ?_ ?_
        rotate_left
        · intro w9 hSw; (try dsimp only at hSw); go_simp; try with_reducible rfl
        try simp only [pm, s0, sS]
        refine tkH 11 ?_ ⟨some 34, .load 34 (.tmp 33), 34, "l08_star.go:104", #[⟨10, .data⟩], none⟩ ?_ ?_
        rotate_left
        · intro w9 hSw; (try dsimp only at hSw); go_simp; try with_reducible rfl
        try simp only [pm, s0, sS]
        refine wpAnyH_ready (rs := [3]) (by kernel_rfl) (by simp) ?_
        refine AllReadyH.cons (o := ⟨some 26, .call { callee := .value (.func 17), args := #[.tmp 25], argTypes := #[3] }, 9, "l08_star.go:104", #[⟨2, .data⟩], none⟩) rfl (fun K hK => ?_) ?_
        go_simp
        go_at_call_of 17 (Value.int .i64 ZA)
        refine (formatInt_impl ZA _ (by have := HZA.out; omega) (by have := HZA.out; omega) (HLDR.out.below SS.out.below)).mono ?_
        rintro e vi ⟨rfl, hb⟩
        rw [HTI.out]
        have SX := Lib.hid (SS.out.call hb)
        clear SS
        have SS := Lib.hid SX.out
        clear SX
        clear hb
        refine hK.out _ _ (mkS_6 _ _ _ SS.out) (fun hHeld => ?_)
        clear hK K
        try simp only [pm, s0, sS]
        refine wpAnyH_ready (rs := [6]) (by kernel_rfl) (by simp) ?_
        refine AllReadyH.cons (o := ⟨some 29, .call { callee := .value (.func 18), args := #[.tmp 28], argTypes := #[34] }, 9, "l08_star.go:104", #[⟨5, .data⟩, ⟨3, .chain⟩], none⟩) rfl (fun K hK => ?_) ?_
        go_simp
        go_at_call_of 18 (Value.agg #[Value.bool ZP.s, (Value.slice a0 n0 c0), (Value.slice a1 n1 c1)])
        refine (formatRat_i ZP (.slice a0 n0 c0) (.slice a1 n1 c1) _ (show FrA _ _ _ _ from (HRA.out (ZP, .slice a0 n0 c0, .slice a1 n1 c1) (by simp)).below SS.out.below) (HLDR.out.below SS.out.below)).mono ?_
        rintro e vZP ⟨rfl, hb⟩
        rw [HTp.out]
        have SX := Lib.hid (SS.out.call hb)
        clear SS
        have SS := Lib.hid SX.out
        clear SX
        clear hb
        refine hK.out _ _ (mkS_6 _ _ _ SS.out) (fun hHeld => ?_)
        clear hK K
        try simp only [pm, s0, sS]
        refine wpAnyH_ready (rs := [9]) (by kernel_rfl) (by simp) ?_
        refine AllReadyH.cons (o := ⟨some 32, .call { callee := .value (.func 18), args := #[.tmp 31], argTypes := #[34] }, 9, "l08_star.go:104", #[⟨8, .data⟩, ⟨6, .chain⟩], none⟩) rfl (fun K hK => ?_) ?_
        go_simp
        go_at_call_of 18 (Value.agg #[Value.bool ZQ.s, (Value.slice a2 n2 c2), (Value.slice a3 n3 c3)])
        refine (formatRat_i ZQ (.slice a2 n2 c2) (.slice a3 n3 c3) _ (show FrA _ _ _ _ from (HRA.out (ZQ, .slice a2 n2 c2, .slice a3 n3 c3) (by simp)).below SS.out.below) (HLDR.out.below SS.out.below)).mono ?_
        rintro e vZQ ⟨rfl, hb⟩
        rw [HTq.out]
        have SX := Lib.hid (SS.out.call hb)
        clear SS
        have SS := Lib.hid SX.out
        clear SX
        clear hb
        refine hK.out _ _ (mkS_6 _ _ _ SS.out) (fun hHeld => ?_)
        clear hK K
        try simp only [pm, s0, sS]
        refine wpAnyH_ready (rs := [12]) (by kernel_rfl) (by simp) ?_
        refine AllReadyH.cons (o := ⟨some 35, .call { callee := .value (.func 18), args := #[.tmp 34], argTypes := #[34] }, 9, "l08_star.go:104", #[⟨11, .data⟩, ⟨9, .chain⟩], none⟩) rfl (fun K hK => ?_) ?_
        go_simp
        go_at_call_of 18 (Value.agg #[Value.bool ZR.s, (Value.slice a4 n4 c4), (Value.slice a5 n5 c5)])
        refine (formatRat_i ZR (.slice a4 n4 c4) (.slice a5 n5 c5) _ (show FrA _ _ _ _ from (HRA.out (ZR, .slice a4 n4 c4, .slice a5 n5 c5) (by simp)).below SS.out.below) (HLDR.out.below SS.out.below)).mono ?_
        rintro e vZR ⟨rfl, hb⟩
        rw [HTr.out]
        have SX := Lib.hid (SS.out.call hb)
        clear SS
        have SS := Lib.hid SX.out
        clear SX
        clear hb
        refine hK.out _ _ (mkS_6 _ _ _ SS.out) (fun hHeld => ?_)
        clear hK K
        try simp only [pm, s0, sS]
        refine wpAnyH_ready (rs := [13]) (by kernel_rfl) (by simp) ?_
        refine AllReadyH.cons (o := ⟨some 36, .buildSlice 50 4 #[(0, .tmp 26), (1, .tmp 29), (2, .tmp 32), (3, .tmp 35)], 50, "l08_star.go:104", #[⟨3, .data⟩, ⟨6, .data⟩, ⟨9, .data⟩, ⟨12, .data⟩], none⟩) rfl (fun K hK => ?_) ?_
        go_simp
        have SX := Lib.hid (SS.out.allocE [.string ti, .string tp, .string tq, .string tr] 9)
        clear SS
        have SS := Lib.hid SX.out
        clear SX
        refine hK.out _ _ (mkS_6 _ _ _ SS.out) (fun hHeld => ?_)
        clear hK K
        try simp only [pm, s0, sS]
        refine wpAnyH_ready (rs := [14]) (by kernel_rfl) (by simp) ?_
        refine AllReadyH.cons (o := ⟨some 37, .call { callee := .value (.func 19), args := #[.const (Value.string { data := #[58] }), .tmp 36], argTypes := #[9, 50] }, 9, "l08_star.go:104", #[⟨13, .data⟩, ⟨12, .chain⟩], none⟩) rfl (fun K hK => ?_) ?_
        go_simp
        go_at_call 19
        refine (joinAll_any _ 4 4 ⟨#[58]⟩ [ti, tp, tq, tr] _ (vrow4 vZR _ _ _ _ _) (by omega) (by decide) (by show 4 + (ti.size + (tp.size + (tq.size + (tr.size + 0)))) ≤ _; omega) (by omega)).mono ?_
        rintro e vj ⟨rfl, hb⟩
        rw [join4]
        have SX := Lib.hid (SS.out.call hb)
        clear SS
        have SS := Lib.hid SX.out
        clear SX
        clear hb
        refine hK.out _ _ (mkS_6 _ _ _ SS.out) (fun hHeld => ?_)
        clear hK K
        try simp only [pm, s0, sS]
        rotate_left
        exact AllReadyH.nil
        exact AllReadyH.nil
        exact AllReadyH.nil
        exact AllReadyH.nil
        exact AllReadyH.nil
        exact AllReadyH.nil
        all_goals
          (refine wpAnyH_ready (rs := [15]) (by kernel_rfl) (by simp) ?_
           refine AllReadyH.cons (o := ⟨some 38, .buildSlice 50 1 #[(0, .tmp 37)], 50, "l08_star.go:104", #[⟨14, .data⟩], none⟩) rfl (fun K hK => ?_) AllReadyH.nil
           go_simp
           have SX := Lib.hid (SS.out.allocE [.string (ti ++ ⟨#[58]⟩ ++ tp ++ ⟨#[58]⟩ ++ tq ++ ⟨#[58]⟩ ++ tr)] 9)
           clear SS
           have SS := Lib.hid SX.out
           clear SX
           refine hK.out _ _ (mkS_6 _ _ _ SS.out) (fun hHeld => ?_)
           clear hK K
           try simp only [pm, s0, sS]
           refine wpAnyH_ready (rs := [16]) (by kernel_rfl) (by simp) ?_
           refine AllReadyH.cons (o := ⟨some 39, .call { callee := .builtin .append, args := #[.tmp 23, .tmp 38], argTypes := #[50, 50] }, 50, "l08_star.go:104", #[⟨0, .data⟩, ⟨15, .data⟩, ⟨14, .chain⟩], none⟩) rfl (fun K hK => ?_) AllReadyH.nil
           refine step_append_str rfl (.tmp 23) (.tmp 38) 50 rfl w.heap.size 9 i0 _ Tryz.underlying50 hi hz0 hz1 hz2 rfl _ (2 + k) _ (by simp [Act.eval] <;> rfl) (own_below HO.out SS.out.below) vj.heap.size 1 (ti ++ ⟨#[58]⟩ ++ tp ++ ⟨#[58]⟩ ++ tq ++ ⟨#[58]⟩ ++ tr) (by simp [Act.eval] <;> rfl) (by simp) (by omega) (Nat.le_trans HB.out.size SS.out.below.size) ?_
           intro v9 w9 ho9 hg9
           have HO9 := Lib.hid ho9
           have HB9 := Lib.hid ((HB.out.trans (SS.out.below.mono HB.out.size)).grown hg9 (Nat.le_trans HB.out.size SS.out.below.size) (fun q hq => (HO.out.lt q hq).1))
           have KP9 := Lib.hid ((SS.out.held 0 rfl).grown hg9 (fun e => Nat.lt_irrefl _ (HO.out.lt _ e.symm).2))
           clear ho9 hg9
           refine hK.out _ _ (⟨KP9.out.cell 0 _ rfl, KP9.out.cell 1 _ rfl, KP9.out.cell 2 _ rfl, KP9.out.cell 3 _ rfl, KP9.out.cell 4 _ rfl, KP9.out.cell 5 _ rfl, KP9.out.cell 6 _ rfl, KP9.out.cell 7 _ rfl, KP9.out.cell 8 _ rfl, KP9.out.cell 9 _ rfl⟩) (fun hHeld => ?_)
           clear hK K
           try simp only [pm, s0, sS]
           refine tkH 17 ?_ ⟨some 3, .assign (.tmp 39), 50, "l08_star.go:104", #[⟨16, .data⟩, ⟨16, .chain⟩, ⟨0, .phase⟩, ⟨1, .phase⟩, ⟨2, .phase⟩, ⟨3, .phase⟩, ⟨4, .phase⟩, ⟨5, .phase⟩, ⟨6, .phase⟩, ⟨7, .phase⟩, ⟨8, .phase⟩, ⟨9, .phase⟩, ⟨10, .phase⟩, ⟨11, .phase⟩, ⟨12, .phase⟩, ⟨13, .phase⟩, ⟨14, .phase⟩, ⟨15, .phase⟩, ⟨16, .phase⟩], none⟩ ?_ ?_
           rotate_left
           · intro w9 hSw; (try dsimp only at hSw); go_simp; try with_reducible rfl
           try simp only [pm, s0, sS]
           refine wpAnyH_done (by kernel_rfl) ?_ _
           refine NoPanic.normal ?_)
        all_goals go_wp2
        all_goals refine ⟨⟨k + 1, by omega, by go_num, ?_, HB9.out⟩, by simp [intOf]; omega⟩
        all_goals have h := HO9.out
        all_goals rw [words_step HD.out, ← HPT.out, List.map_append]
        all_goals exact h
      · obtain rfl : k = n := by omega
        obtain ⟨Aw, cw, rfl⟩ := own_shape HO.out
        have hrow := VRow.of_own HO.out
        have hcap := own_cap HO.out
        have htk : (dats zs).take k = dats zs := List.take_of_length_le (by rw [HL.out]; exact Nat.le_refl _)
        have htot := words_total HOK.out k
        rw [htk] at hrow htot
        have HROW := Lib.hid hrow
        clear hrow htk
        go_wp2_with fail
        refine (join_impl Aw (2 + k) cw ⟨#[32]⟩ (wordsT N T (dats zs)) _ HROW.out hcap.1 (by decide) (by omega) (by omega)).mono ?_
        rintro e w9 ⟨rfl, hb⟩
        have HB9 := Lib.hid (HB.out.trans (hb.mono HB.out.size))
        have HE := Lib.hid (show join ⟨#[32]⟩ (wordsT N T (dats zs)) = R by rw [← HR.out, words_all HOK.out])
        clear hb
        rw [HE.out]
        go_wp2
        go_ret
        exact ⟨rfl, HB9.out⟩
  · rw [Bool.not_eq_true] at hok
    rw [hok]
    have HE := Lib.hid (show ⟨#[]⟩ = R by rw [← HR.out, fmtC_no hok])
    clear hok
    go_wp2
    go_ret
    exact ⟨by rw [← HE.out]; rfl, S_2.out.below⟩
end Go.Proofs.YtdchhkpkkfjibaaGreatDoor
