/- FormatPoints of the model. Conditions: none. -/
import Derived.Test.YtbikkbamcleinaaDoorPTextMath
import Derived.Test.YtbikkbamcleinaaDoorHand
import Derived.Deep.RegionLawGrows
import Derived.Laws.AppendOwnNone
import Derived.Laws.OwnMore
namespace Go.Proofs.YtbikkbamcleinaaDoor
open Go.RowKit Nt Fr Nu Jn
set_option linter.unusedVariables false

theorem RArg.at_q {S ni nf : Nat} {w : World} {A : Option Addr} {n : Nat} {zs : List Rc} (h : RArg S ni nf w A n zs) {k : Nat} (hk : k < n) : ∃ g o z, A = some ⟨g, o, none⟩ ∧ g < w.heap.size ∧ zs[k]? = some z ∧ z.ra w ∧ z.sh ni nf ∧ ∀ (j : Nat) (v : Value), (z.cells)[j]? = some v → w.cell? ⟨g, o + k * S + j, none⟩ = some v := by
  obtain ⟨g, o, z, e, hg, hz, _, hs, hc⟩ := h.row.at_ hk
  exact ⟨g, o, z, e, hg, hz, h.arg z (List.mem_of_getElem? hz), hs, hc⟩
theorem datq_get {zs : List Rc} {k : Nat} {z : Rc} (h : zs[k]? = some z) : (dats zs)[k]? = some z.dat := by simp [dats, h]
theorem Rc.shapesQ {w : World} {z : Rc} (hs : z.sh 0 2) (h : z.ra w) : ∃ P Q a0 n0 c0 a1 n1 c1 a2 n2 c2 a3 n3 c3, z = ⟨[], [(P, .slice a0 n0 c0, .slice a1 n1 c1), (Q, .slice a2 n2 c2, .slice a3 n3 c3)]⟩ := by
  obtain ⟨P, p0, p1, Q, q0, q1, rfl⟩ := Rc.sh02 hs
  obtain ⟨a0, n0, c0, a1, n1, c1, h1, h2⟩ := (h (P, p0, p1) (by simp)).shape
  obtain ⟨a2, n2, c2, a3, n3, c3, h3, h4⟩ := (h (Q, q0, q1) (by simp)).shape
  simp only at h1 h2 h3 h4
  subst h1 h2 h3 h4
  exact ⟨_, _, _, _, _, _, _, _, _, _, _, _, _, _, rfl⟩
/-- One string appended to strings of one's own, as one step of a region that draws its order. -/
theorem step_append_strP {P : Program} {ops : Array Oper} {o : Oper} {a : Act} {w : World} {K : Act → World → Prop} {Q : Exit → Act → World → Prop} {E : Prop}
    (hg : o.guard = none) (s x : Operand) (t : TypeId) (hop : o.op = Op.call { callee := Callee.builtin Builtin.append, args := #[s, x], argTypes := #[t, t] })
    (base : Nat) (e : TypeId) (i : TypeInfo) (z : Value) (h1 : P.underlying t = some (.slice e)) (h2 : P.info? e = some i) (h3 : i.zero = some z) (h4 : i.size = 1) (h5 : i.bytes = 16) (h6 : z.cells.size = 1)
    (v : Value) (n : Nat) (xs : List Value) (hs : a.eval s = v) (hown : w.ownsRow base e 1 v n xs) (g c : Nat) (tx : ByteArray) (hx : a.eval x = .slice (some ⟨g, 0, none⟩) 1 c) (hc : w.cell? ⟨g, 0, none⟩ = some (.string tx)) (h63 : n ≤ 4194304) (hbase : base ≤ w.heap.size)
    (hK : ∀ v' w', w'.ownsRow base e 1 v' (n + 1) (xs ++ [.string tx]) → w.grownBy w' v.ownBlock → K (a.put o.dst v') w') :
    if Region.wanted o (yielded ops a.tmps) = true then Oper.wp P o a w K Q else E := by
  have hw : Region.wanted o (yielded ops a.tmps) = true := by simp [Region.wanted, hg]
  rw [if_pos hw]
  refine wp_append_own w s x t hop base e i z 1 16 h1 h2 h3 h4 h5 h6 (by decide) v n xs hs hown ⟨g, 0, none⟩ 1 c [.string tx] hx rfl ?_ (by simp [Value.oneCell']) (by unfold maxLen; omega) (by omega) hbase (fun v' w' h1 h2 _ => hK v' w' h1 h2)
  intro j u hj
  match j, hj with
  | 0, hj =>
    simp at hj
    subst hj
    exact hc
theorem infoStrP : (Tryd.prog.info? 9).map (fun i => (i.zero, i.size, i.bytes)) = some (some (.string ByteArray.empty), 1, 16) := by kernel_rfl
set_option maxRecDepth 100000 in
set_option maxHeartbeats 4000000 in
theorem l08P_f (X Y : Fr) (x0 x1 y0 y1 : Value) (w : World) (hX : FrA w X x0 x1) (hY : FrA w Y y0 y1) :
    Calls Tryd.prog 10 #[.agg #[.bool X.s, x0, x1, .bool Y.s, y0, y1]] w fun e w' => e = .returned (.bool (X.ok && Y.ok)) ∧ Below w.heap.size w w' := by
  have HX := Lib.hid hX
  have HY := Lib.hid hY
  clear hX hY
  obtain ⟨s1, hs1⟩ : ∃ z, X.ok = z := ⟨_, rfl⟩
  rw [hs1]
  have H1 := Lib.hid hs1
  clear hs1
  have S_1 := Lib.hid (show St w (w.alloc (.cells #[.bool X.s, x0, x1, .bool Y.s, y0, y1] 42)) [(w.heap.size, [.bool X.s, x0, x1, .bool Y.s, y0, y1])] [] from ((St.start w).alloc_at (b := w.heap.size) [.bool X.s, x0, x1, .bool Y.s, y0, y1] 42 (by first | rfl | simp)))
  go_enter Tryd.func10, Tryd.ntmps10
  go_wp2_with fail
  refine (ratOk_s X x0 x1 _ (S_1.out.frA HX.out)).mono ?_
  rintro e w1 ⟨rfl, hb⟩
  have S_2 := Lib.hid (S_1.out.call hb)
  clear S_1
  clear hb
  rw [H1.out]
  by_cases g1 : s1 = true
  · subst g1
    have hk_a_0_2 := S_2.out.cell 0 0 rfl rfl
    have hk_a_1_2 := S_2.out.cell 0 1 rfl rfl
    have hk_a_2_2 := S_2.out.cell 0 2 rfl rfl
    have hk_a_3_2 := S_2.out.cell 0 3 rfl rfl
    have hk_a_4_2 := S_2.out.cell 0 4 rfl rfl
    have hk_a_5_2 := S_2.out.cell 0 5 rfl rfl
    go_wp2_with fail
    refine (ratOk_s Y y0 y1 _ (S_2.out.frA HY.out)).mono ?_
    rintro e w2 ⟨rfl, hb⟩
    have S_3 := Lib.hid (S_2.out.call hb)
    clear S_2
    clear hb
    clear hk_a_0_2 hk_a_1_2 hk_a_2_2 hk_a_3_2 hk_a_4_2 hk_a_5_2
    go_wp2
    all_goals go_ret
    all_goals exact ret_b rfl S_3.out.below
  · rw [Bool.not_eq_true] at g1
    subst g1
    go_wp2
    all_goals go_ret
    all_goals exact ret_b rfl S_2.out.below
set_option maxRecDepth 100000 in
set_option maxHeartbeats 20000000 in
theorem formatPoints_s (A : Option Addr) (n c : Nat) (zs : List Rc) (w : World) (hA : RArg 6 0 2 w A n zs) (hn : n ≤ 1048576) :
    Calls Tryd.prog 5 #[.slice A n c] w fun e w' => e = .returned (.string (fmtPts (dats zs))) ∧ Below w.heap.size w w' := by
  have HA := Lib.hid hA
  have HL := Lib.hid (show (dats zs).length = n by rw [dats_len]; exact hA.row.len)
  clear hA
  obtain ⟨R, hR⟩ : ∃ z, fmtPts (dats zs) = z := ⟨_, rfl⟩
  rw [hR]
  have HR := Lib.hid hR
  clear hR
  obtain ⟨i0, hi, hz0, hz1, hz2⟩ := info_parts infoStrP
  go_enter Tryd.func5, Tryd.ntmps5
  go_wp2
  go_loopw [3, 9] (fun v i wx => ∃ k : Nat, k ≤ n ∧ i = .int .i64 k ∧ wx.ownsRow w.heap.size 9 1 v (fpWords 0 ((dats zs).take k)).length ((fpWords 0 ((dats zs).take k)).map .string) ∧ Below w.heap.size w wx) (fun _ i _ => n - (intOf i).toNat)
  case atStart => exact ⟨0, Nat.zero_le _, rfl, World.ownsRow_made (base := w.heap.size) (e := 9) (size := 1) w #[] 0 (Nat.le_refl _) (Nat.zero_le _) rfl, (Below.refl _ _).alloc (Nat.le_refl _) _⟩
  case round =>
    obtain ⟨k, hk, rfl, ho, hb⟩ := hrel
    have HB := Lib.hid hb
    have HO := Lib.hid ho
    clear hb ho
    by_cases hlt : k < n
    · obtain ⟨g, o, z, rfl, hg, hz, hr, hs, hc⟩ := (HA.out.below HB.out).at_q hlt
      obtain ⟨ZP, ZQ, a0, n0, c0, a1, n1, c1, a2, n2, c2, a3, n3, c3, rfl⟩ := Rc.shapesQ hs hr
      have HD := Lib.hid (show (dats zs)[k]? = some ([], [ZP, ZQ]) from datq_get hz)
      have HRA := Lib.hid hr
      obtain ⟨ti, hti⟩ : ∃ z, itoaB (k : Int) = z := ⟨_, rfl⟩
      obtain ⟨tp, htp⟩ : ∃ z, ZP.txt = z := ⟨_, rfl⟩
      obtain ⟨tq, htq⟩ : ∃ z, ZQ.txt = z := ⟨_, rfl⟩
      have hsi : ti.size ≤ 20 := by rw [← hti]; exact itoa_len (k : Int) (by omega) (by omega)
      have hsp : tp.size ≤ 1202 := by rw [← htp]; exact ptxt_size _
      have hsq : tq.size ≤ 1202 := by rw [← htq]; exact ptxt_size _
      have HTI := Lib.hid hti
      have HTP := Lib.hid htp
      have HTQ := Lib.hid htq
      have HPT := Lib.hid (show (ti ++ ⟨#[61]⟩ ++ tp ++ ⟨#[44]⟩ ++ tq) = fpTxt k (fpX ([], [ZP, ZQ])) (fpY ([], [ZP, ZQ])) by rw [← hti, ← htp, ← htq]; rfl)
      clear hti htp htq hz hr hs
      have hk0 : (0 : Int) ≤ (k : Int) := by omega
      have hk1 : (k : Int) < (n : Int) := by omega
      have hwl : (fpWords 0 ((dats zs).take k)).length ≤ 4194304 := by have := fpWords_len (dats zs) k; omega
      have e0 : wr.cell? ⟨g, o + k * 6, none⟩ = some (.bool ZP.s) := hc 0 _ rfl
      have e1 : wr.cell? ⟨g, o + k * 6 + 1, none⟩ = some ((.slice a0 n0 c0)) := hc 1 _ rfl
      have e2 : wr.cell? ⟨g, o + k * 6 + 2, none⟩ = some ((.slice a1 n1 c1)) := hc 2 _ rfl
      have e3 : wr.cell? ⟨g, o + k * 6 + 3, none⟩ = some (.bool ZQ.s) := hc 3 _ rfl
      have e4 : wr.cell? ⟨g, o + k * 6 + 4, none⟩ = some ((.slice a2 n2 c2)) := hc 4 _ rfl
      have e5 : wr.cell? ⟨g, o + k * 6 + 5, none⟩ = some ((.slice a3 n3 c3)) := hc 5 _ rfl
      clear hc
      obtain ⟨s1, hs1⟩ : ∃ z, ZP.ok = z := ⟨_, rfl⟩
      obtain ⟨s2, hs2⟩ : ∃ z, ZQ.ok = z := ⟨_, rfl⟩
      have H1 := Lib.hid hs1
      have H2 := Lib.hid hs2
      clear hs1 hs2
      have S_1 := Lib.hid (show St wr (wr.alloc (.cells #[.bool ZP.s, (.slice a0 n0 c0), (.slice a1 n1 c1), .bool ZQ.s, (.slice a2 n2 c2), (.slice a3 n3 c3)] 42)) [(wr.heap.size, [.bool ZP.s, (.slice a0 n0 c0), (.slice a1 n1 c1), .bool ZQ.s, (.slice a2 n2 c2), (.slice a3 n3 c3)])] [] from (St.start wr).alloc [.bool ZP.s, (.slice a0 n0 c0), (.slice a1 n1 c1), .bool ZQ.s, (.slice a2 n2 c2), (.slice a3 n3 c3)] 42)
      have hk_p_0_1 := S_1.out.cell 0 0 rfl rfl
      have hk_p_1_1 := S_1.out.cell 0 1 rfl rfl
      have hk_p_2_1 := S_1.out.cell 0 2 rfl rfl
      have hk_p_3_1 := S_1.out.cell 0 3 rfl rfl
      have hk_p_4_1 := S_1.out.cell 0 4 rfl rfl
      have hk_p_5_1 := S_1.out.cell 0 5 rfl rfl
      go_wp2_with fail
      refine (l08P_f ZP ZQ (.slice a0 n0 c0) (.slice a1 n1 c1) (.slice a2 n2 c2) (.slice a3 n3 c3) _ (show FrA _ _ _ _ from (HRA.out (ZP, .slice a0 n0 c0, .slice a1 n1 c1) (by simp)).below S_1.out.below) (show FrA _ _ _ _ from (HRA.out (ZQ, .slice a2 n2 c2, .slice a3 n3 c3) (by simp)).below S_1.out.below)).mono ?_
      rintro e vl ⟨rfl, hb⟩
      have S_2 := Lib.hid (S_1.out.call hb)
      clear S_1
      clear hb
      clear hk_p_0_1 hk_p_1_1 hk_p_2_1 hk_p_3_1 hk_p_4_1 hk_p_5_1
      rw [H1.out, H2.out]
      by_cases hok : (s1 && s2) = true
      · obtain ⟨rfl, rfl⟩ : s1 = true ∧ s2 = true := by simpa using hok
        have hz_0 : ¬ (9223372036854775807 < ti.size + 1) := by omega
        have hz_1 : ¬ (9223372036854775807 < ti.size + 1 + tp.size) := by omega
        have hz_2 : ¬ (9223372036854775807 < ti.size + 1 + tp.size + 1) := by omega
        have hz_3 : ¬ (9223372036854775807 < ti.size + 1 + tp.size + 1 + tq.size) := by omega
        have hk_p_0_2 := S_2.out.cell 0 0 rfl rfl
        have hk_p_1_2 := S_2.out.cell 0 1 rfl rfl
        have hk_p_2_2 := S_2.out.cell 0 2 rfl rfl
        have hk_p_3_2 := S_2.out.cell 0 3 rfl rfl
        have hk_p_4_2 := S_2.out.cell 0 4 rfl rfl
        have hk_p_5_2 := S_2.out.cell 0 5 rfl rfl
        go_wp2
        clear hk_p_0_2 hk_p_1_2 hk_p_2_2 hk_p_3_2 hk_p_4_2 hk_p_5_2
        have mkS_3 : ∀ (w' : World) (bs' : List (Nat × List Value)) (cs' : List Chunk), St wr w' ((wr.heap.size, [.bool ZP.s, (.slice a0 n0 c0), (.slice a1 n1 c1), .bool ZQ.s, (.slice a2 n2 c2), (.slice a3 n3 c3)]) :: bs') cs' → w'.cell? ⟨wr.heap.size, 0, none⟩ = some (.bool ZP.s) ∧ w'.cell? ⟨wr.heap.size, 1, none⟩ = some ((.slice a0 n0 c0)) ∧ w'.cell? ⟨wr.heap.size, 2, none⟩ = some ((.slice a1 n1 c1)) ∧ w'.cell? ⟨wr.heap.size, 3, none⟩ = some (.bool ZQ.s) ∧ w'.cell? ⟨wr.heap.size, 4, none⟩ = some ((.slice a2 n2 c2)) ∧ w'.cell? ⟨wr.heap.size, 5, none⟩ = some ((.slice a3 n3 c3)) := fun w' bs' cs' h => ⟨h.cell 0 0 rfl rfl, h.cell 0 1 rfl rfl, h.cell 0 2 rfl rfl, h.cell 0 3 rfl rfl, h.cell 0 4 rfl rfl, h.cell 0 5 rfl rfl⟩
        have SS := Lib.hid S_2.out.drew
        refine wp_region_noPanic ?_
        refine wp_region_held_drew (S := (fun w' => w'.cell? ⟨wr.heap.size, 0, none⟩ = some (.bool ZP.s) ∧ w'.cell? ⟨wr.heap.size, 1, none⟩ = some ((.slice a0 n0 c0)) ∧ w'.cell? ⟨wr.heap.size, 2, none⟩ = some ((.slice a1 n1 c1)) ∧ w'.cell? ⟨wr.heap.size, 3, none⟩ = some (.bool ZQ.s) ∧ w'.cell? ⟨wr.heap.size, 4, none⟩ = some ((.slice a2 n2 c2)) ∧ w'.cell? ⟨wr.heap.size, 5, none⟩ = some ((.slice a3 n3 c3)))) (by kernel_rfl) ?_ (fun hHeld => ?_)
        · exact mkS_3 _ _ _ SS.out
        refine tkH 0 ?_ ⟨some 16, .move (.tmp 3), 37, "l11_batch.go:118", #[], none⟩ ?_ ?_
        rotate_left
        · intro w9 hSw; (try dsimp only at hSw); go_simp; try with_reducible rfl
        try simp only [pm, s0, sS]
        refine tkH 1 ?_ ⟨some 17, .move (.tmp 4), 3, "l11_batch.go:118", #[], none⟩ ?_ ?_
        rotate_left
        · intro w9 hSw; (try dsimp only at hSw); go_simp; try with_reducible rfl
        try simp only [pm, s0, sS]
        refine tkH 4 ?_ ⟨some 20, .fieldAddr 42 (.tmp 5) 0, 0, "l11_batch.go:118", #[], none⟩ ?_ ?_
        rotate_left
        · intro w9 hSw; (try dsimp only at hSw); go_simp; try with_reducible rfl
        try simp only [pm, s0, sS]
        refine tkH 5 ?_ ⟨some 21, .load 40 (.tmp 20), 40, "l11_batch.go:118", #[⟨4, .data⟩], none⟩ ?_ ?_
        rotate_left
        · intro w9 hSw; (try dsimp only at hSw); go_simp; try with_reducible rfl
        try simp only [pm, s0, sS]
        refine tkH 9 ?_ ⟨some 25, .fieldAddr 42 (.tmp 5) 1, 0, "l11_batch.go:118", #[], none⟩ ?_ ?_
        rotate_left
        · intro w9 hSw; (try dsimp only at hSw); go_simp; try with_reducible rfl
        try simp only [pm, s0, sS]
        refine tkH 10 ?_ ⟨some 26, .load 40 (.tmp 25), 40, "l11_batch.go:118", #[⟨9, .data⟩], none⟩ ?_ ?_
        rotate_left
        · intro w9 hSw; (try dsimp only at hSw); go_simp; try with_reducible rfl
        try simp only [pm, s0, sS]
        refine wpAnyH_ready (rs := [2]) (by kernel_rfl) (by simp) ?_
        refine AllReadyH.cons (o := ⟨some 18, .call { callee := .value (.func 11), args := #[.tmp 17], argTypes := #[3] }, 9, "l11_batch.go:118", #[⟨1, .data⟩], none⟩) rfl (fun K hK => ?_) ?_
        go_simp
        go_at_call_of 11 (Value.int .i64 (k : Int))
        refine (format_any (k : Int) _ (by omega) (by omega)).mono ?_
        rintro e v0 ⟨rfl, hb⟩
        rw [HTI.out]
        have SX := Lib.hid (SS.out.call hb)
        clear SS
        have SS := Lib.hid SX.out
        clear SX
        clear hb
        refine hK.out _ _ (mkS_3 _ _ _ SS.out) (fun hHeld => ?_)
        clear hK K
        try simp only [pm, s0, sS]
        refine tkH 3 ?_ ⟨some 19, .binOp .add 9 (.tmp 18) (.const (Value.string { data := #[61] })) 9, 9, "l11_batch.go:118", #[⟨2, .data⟩], none⟩ ?_ ?_
        rotate_left
        · intro w9 hSw; (try dsimp only at hSw); go_simp; try with_reducible rfl
        try simp only [pm, s0, sS]
        refine wpAnyH_ready (rs := [6]) (by kernel_rfl) (by simp) ?_
        refine AllReadyH.cons (o := ⟨some 22, .call { callee := .value (.func 12), args := #[.tmp 21], argTypes := #[40] }, 9, "l11_batch.go:118", #[⟨5, .data⟩, ⟨2, .chain⟩], none⟩) rfl (fun K hK => ?_) ?_
        go_simp
        go_at_call_of 12 (Value.agg #[Value.bool ZP.s, (Value.slice a0 n0 c0), (Value.slice a1 n1 c1)])
        refine (formatRat_s ZP (.slice a0 n0 c0) (.slice a1 n1 c1) _ (show FrA _ _ _ _ from (HRA.out (ZP, .slice a0 n0 c0, .slice a1 n1 c1) (by simp)).below SS.out.below)).mono ?_
        rintro e v1 ⟨rfl, hb⟩
        rw [HTP.out]
        have SX := Lib.hid (SS.out.call hb)
        clear SS
        have SS := Lib.hid SX.out
        clear SX
        clear hb
        refine hK.out _ _ (mkS_3 _ _ _ SS.out) (fun hHeld => ?_)
        clear hK K
        try simp only [pm, s0, sS]
        refine tkH 7 ?_ ⟨some 23, .binOp .add 9 (.tmp 19) (.tmp 22) 9, 9, "l11_batch.go:118", #[⟨3, .data⟩, ⟨6, .data⟩], none⟩ ?_ ?_
        rotate_left
        · intro w9 hSw; (try dsimp only at hSw); go_simp; try with_reducible rfl
        try simp only [pm, s0, sS]
        refine tkH 8 ?_ ⟨some 24, .binOp .add 9 (.tmp 23) (.const (Value.string { data := #[44] })) 9, 9, "l11_batch.go:118", #[⟨7, .data⟩], none⟩ ?_ ?_
        rotate_left
        · intro w9 hSw; (try dsimp only at hSw); go_simp; try with_reducible rfl
        try simp only [pm, s0, sS]
        refine wpAnyH_ready (rs := [11]) (by kernel_rfl) (by simp) ?_
        refine AllReadyH.cons (o := ⟨some 27, .call { callee := .value (.func 12), args := #[.tmp 26], argTypes := #[40] }, 9, "l11_batch.go:118", #[⟨10, .data⟩, ⟨6, .chain⟩], none⟩) rfl (fun K hK => ?_) ?_
        go_simp
        go_at_call_of 12 (Value.agg #[Value.bool ZQ.s, (Value.slice a2 n2 c2), (Value.slice a3 n3 c3)])
        refine (formatRat_s ZQ (.slice a2 n2 c2) (.slice a3 n3 c3) _ (show FrA _ _ _ _ from (HRA.out (ZQ, .slice a2 n2 c2, .slice a3 n3 c3) (by simp)).below SS.out.below)).mono ?_
        rintro e v2 ⟨rfl, hb⟩
        rw [HTQ.out]
        have SX := Lib.hid (SS.out.call hb)
        clear SS
        have SS := Lib.hid SX.out
        clear SX
        clear hb
        refine hK.out _ _ (mkS_3 _ _ _ SS.out) (fun hHeld => ?_)
        clear hK K
        try simp only [pm, s0, sS]
        refine tkH 12 ?_ ⟨some 28, .binOp .add 9 (.tmp 24) (.tmp 27) 9, 9, "l11_batch.go:118", #[⟨8, .data⟩, ⟨11, .data⟩], none⟩ ?_ ?_
        rotate_left
        · intro w9 hSw; (try dsimp only at hSw); go_simp; try with_reducible rfl
        try simp only [pm, s0, sS]
        rotate_left
        exact AllReadyH.nil
        exact AllReadyH.nil
        exact AllReadyH.nil
        all_goals
          (refine wpAnyH_ready (rs := [13]) (by kernel_rfl) (by simp) ?_
           refine AllReadyH.cons (o := ⟨some 29, .buildSlice 37 1 #[(0, .tmp 28)], 37, "l11_batch.go:118", #[⟨12, .data⟩], none⟩) rfl (fun K hK => ?_) AllReadyH.nil
           go_simp
           have SX := Lib.hid (SS.out.allocE [.string (ti ++ ⟨#[61]⟩ ++ tp ++ ⟨#[44]⟩ ++ tq)] 9)
           clear SS
           have SS := Lib.hid SX.out
           clear SX
           refine hK.out _ _ (mkS_3 _ _ _ SS.out) (fun hHeld => ?_)
           clear hK K
           try simp only [pm, s0, sS]
           refine wpAnyH_ready (rs := [14]) (by kernel_rfl) (by simp) ?_
           refine AllReadyH.cons (o := ⟨some 30, .call { callee := .builtin .append, args := #[.tmp 16, .tmp 29], argTypes := #[37, 37] }, 37, "l11_batch.go:118", #[⟨0, .data⟩, ⟨13, .data⟩, ⟨11, .chain⟩], none⟩) rfl (fun K hK => ?_) AllReadyH.nil
           refine step_append_strP rfl (.tmp 16) (.tmp 29) 37 rfl w.heap.size 9 i0 _ Tryd.underlying37 hi hz0 hz1 hz2 rfl _ (fpWords 0 ((dats zs).take k)).length _ (by simp [Act.eval] <;> rfl) (own_below HO.out SS.out.below) v2.heap.size 1 (ti ++ ⟨#[61]⟩ ++ tp ++ ⟨#[44]⟩ ++ tq) (by simp [Act.eval] <;> rfl) (by simp) hwl (Nat.le_trans HB.out.size SS.out.below.size) ?_
           intro v9 w9 ho9 hg9
           have HO9 := Lib.hid ho9
           have HB9 := Lib.hid ((HB.out.trans (SS.out.below.mono HB.out.size)).grown hg9 (Nat.le_trans HB.out.size SS.out.below.size) (fun q hq => (HO.out.lt q hq).1))
           have KP9 := Lib.hid ((SS.out.held 0 rfl).grown hg9 (fun e => Nat.lt_irrefl _ (HO.out.lt _ e.symm).2))
           clear ho9 hg9
           refine hK.out _ _ (⟨KP9.out.cell 0 _ rfl, KP9.out.cell 1 _ rfl, KP9.out.cell 2 _ rfl, KP9.out.cell 3 _ rfl, KP9.out.cell 4 _ rfl, KP9.out.cell 5 _ rfl⟩) (fun hHeld => ?_)
           clear hK K
           try simp only [pm, s0, sS]
           refine tkH 15 ?_ ⟨some 3, .assign (.tmp 30), 37, "l11_batch.go:118", #[⟨14, .data⟩, ⟨14, .chain⟩, ⟨0, .phase⟩, ⟨1, .phase⟩, ⟨2, .phase⟩, ⟨3, .phase⟩, ⟨4, .phase⟩, ⟨5, .phase⟩, ⟨6, .phase⟩, ⟨7, .phase⟩, ⟨8, .phase⟩, ⟨9, .phase⟩, ⟨10, .phase⟩, ⟨11, .phase⟩, ⟨12, .phase⟩, ⟨13, .phase⟩, ⟨14, .phase⟩], none⟩ ?_ ?_
           rotate_left
           · intro w9 hSw; (try dsimp only at hSw); go_simp; try with_reducible rfl
           try simp only [pm, s0, sS]
           refine wpAnyH_done (by kernel_rfl) ?_ _
           refine NoPanic.normal ?_)
        all_goals go_wp2
        all_goals refine ⟨⟨k + 1, by omega, by go_num, ?_, HB9.out⟩, by simp [intOf]; omega⟩
        all_goals have h := HO9.out
        all_goals rw [fpWords_step HD.out, show fpOk ([], [ZP, ZQ]) = true from by show (ZP.ok && ZQ.ok) = true; rw [H1.out, H2.out]; rfl, if_pos rfl, List.length_append, List.map_append, ← HPT.out]
        all_goals exact h
      · rw [Bool.not_eq_true] at hok
        rw [hok]
        have HN := Lib.hid (show fpOk ([], [ZP, ZQ]) = false from (by show (ZP.ok && ZQ.ok) = false; rw [H1.out, H2.out]; exact hok))
        have HBN := Lib.hid (HB.out.trans (S_2.out.below.mono HB.out.size))
        go_wp2
        refine ⟨⟨k + 1, by omega, by go_num, ?_, HBN.out⟩, by simp [intOf]; omega⟩
        rw [fpWords_step HD.out, HN.out, if_neg (by decide), List.append_nil]
        exact own_below HO.out S_2.out.below
    · obtain rfl : k = n := by omega
      obtain ⟨Aw, cw, rfl⟩ := own_shape HO.out
      have hrow := VRow.of_own HO.out
      have hcap := own_cap HO.out
      have hlen := fpWords_len (dats zs) k
      have htot := fpWords_total (dats zs) k hn
      have HROW := Lib.hid hrow
      have HE := Lib.hid (show join ⟨#[32]⟩ (fpWords 0 ((dats zs).take k)) = R by rw [← HR.out]; exact fmtPts_all HL.out)
      clear hrow
      go_wp2_with fail
      refine (join_specW Aw (fpWords 0 ((dats zs).take k)).length cw ⟨#[32]⟩ (fpWords 0 ((dats zs).take k)) _ HROW.out (by decide) (by omega) (by omega)).mono ?_
      rintro e w9 ⟨rfl, hw⟩
      subst hw
      have HB9 := Lib.hid HB.out
      rw [HE.out]
      go_wp2
      go_ret
      exact ⟨rfl, HB9.out⟩
end Go.Proofs.YtbikkbamcleinaaDoor
