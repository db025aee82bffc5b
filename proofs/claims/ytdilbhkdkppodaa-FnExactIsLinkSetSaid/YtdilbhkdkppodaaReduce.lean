/- Contract of the program's long division, reduceRow. Conditions: none. -/
import Derived.Test.YtdilbhkdkppodaaProg
import Derived.Test.YtdilbhkdkppodaaRedMath
namespace Go.Proofs.Ytdilbhkdkppodaa
open Go.RowKit Nt
set_option linter.unusedVariables false

/-- Between the two worlds nothing has turned but two blocks. -/
structure Leaves (w w' : World) (g1 g2 : Nat) : Prop where
  os : w'.os = w.os
  tape : w'.tape = w.tape
  output : w'.output = w.output
  size : w.heap.size ≤ w'.heap.size
  block : ∀ k, k < w.heap.size → k ≠ g1 → k ≠ g2 → w'.heap[k]? = w.heap[k]?
section
variable {w w' w2 : World} {g1 g2 : Nat}
theorem Leaves.refl (w : World) (g1 g2 : Nat) : Leaves w w g1 g2 := ⟨rfl, rfl, rfl, Nat.le_refl _, fun _ _ _ _ => rfl⟩
theorem Leaves.drewN (h : Leaves w w' g1 g2) (k : Nat) : Leaves w (w'.drewN k) g1 g2 := ⟨h.os, h.tape, h.output, h.size, h.block⟩
theorem Leaves.grown1 (h : Leaves w w' g1 g2) (hg : w'.grownBy w2 (some g1)) : Leaves w w2 g1 g2 :=
  ⟨hg.os.trans h.os, hg.tape.trans h.tape, hg.output.trans h.output, Nat.le_trans h.size hg.size, fun k hk n1 n2 => (hg.block k (Nat.lt_of_lt_of_le hk h.size) (by simpa using n1)).trans (h.block k hk n1 n2)⟩
theorem Leaves.grown2 (h : Leaves w w' g1 g2) (hg : w'.grownBy w2 (some g2)) : Leaves w w2 g1 g2 :=
  ⟨hg.os.trans h.os, hg.tape.trans h.tape, hg.output.trans h.output, Nat.le_trans h.size hg.size, fun k hk n1 n2 => (hg.block k (Nat.lt_of_lt_of_le hk h.size) (by simpa using n2)).trans (h.block k hk n1 n2)⟩
theorem Leaves.below {B : Nat} {a : World} (h : Leaves w w' g1 g2) (hb : Below B a w) (hB : B ≤ w.heap.size) (h1 : B ≤ g1) (h2 : B ≤ g2) : Below B a w' :=
  ⟨h.os.trans hb.os, h.tape.trans hb.tape, h.output.trans hb.output, Nat.le_trans hb.size h.size, fun k hk => (h.block k (Nat.lt_of_lt_of_le hk hB) (by omega) (by omega)).trans (hb.block k hk)⟩
theorem VRow.leaves {A : Option Addr} {n : Nat} {xs : List Value} (h : VRow w A n xs) (hl : Leaves w w' g1 g2) (hne : 0 < n → ∀ a : Addr, A = some a → a.block ≠ g1 ∧ a.block ≠ g2) : VRow w' A n xs := by
  refine ⟨h.1, fun hn => ?_⟩
  obtain ⟨g, o, rfl, hlt, hc⟩ := h.2 hn
  have h2 := hne hn _ rfl
  refine ⟨g, o, rfl, Nat.lt_of_lt_of_le hlt hl.size, fun k hk => ?_⟩
  rw [World.cell?_of_block (w := w) (a := ⟨g, o + k, none⟩) (hl.block g hlt h2.1 h2.2)]
  exact hc k hk
theorem Whole.leaves {base g : Nat} {e : TypeId} {ys : List Value} (h : Whole w base g e ys) (hl : Leaves w w' g1 g2) (h1 : g ≠ g1) (h2 : g ≠ g2) : Whole w' base g e ys :=
  whole_of h.lt.1 ((hl.block g h.lt.2 h1 h2).trans (whole_heap h)) h.len_le
end
/-- The quotient's row behind the rounds: the limbs QS from place k on. -/
def qrow (Z QS : List Nat) (k : Nat) : List Nat := Z.take k ++ (QS ++ Z.drop (k + QS.length))
theorem qrow_len (Z QS : List Nat) (k : Nat) (h : k + QS.length ≤ Z.length) : (qrow Z QS k).length = Z.length := by simp [qrow]; omega
theorem qrow_nil (Z : List Nat) (k : Nat) : qrow Z [] k = Z := by simp [qrow]
theorem qrow_set (Z QS : List Nat) (i q : Nat) (h : i + 1 + QS.length ≤ Z.length) : (qrow Z QS (i + 1)).set i q = qrow Z (q :: QS) i := by
  unfold qrow
  rw [List.set_append_left _ _ (by simp; omega), List.take_add_one, List.getElem?_eq_getElem (by omega), Option.toList_some, List.set_append_right _ _ (by simp; omega)]
  have e : i - (Z.take i).length = 0 := by simp; omega
  rw [e]
  simp [List.append_assoc]
  congr 1
  omega

set_option maxRecDepth 100000 in
set_option maxHeartbeats 4000000 in
theorem reduceRow_any (gr gq L c nq cq m d base : Nat) (Y Z bs : List Nat) (B : Option Addr) (w : World)
    (hY : Whole w base gr 3 (nats Y)) (hZ : Whole w base gq 3 (nats Z)) (hB : VRow w B m (nats bs)) (hBr : ∀ a : Addr, B = some a → a.block ≠ gr ∧ a.block ≠ gq) (hrq : gr ≠ gq)
    (hYd : Digs Y) (hYc : Canon (Y.take L)) (hbs : Canon bs) (hL : L ≤ c) (hcY : c ≤ Y.length) (hm : 0 < m) (hq : L ≤ nq) (hqZ : nq ≤ Z.length) (hn : Y.length ≤ 1048576) (hm2 : m ≤ 1048576) :
    Calls Try.prog 88 #[.slice (some ⟨gr, 0, none⟩) L c, .slice B m d, .slice (some ⟨gq, 0, none⟩) nq cq] w fun e w' => ∃ r rc : Nat, ∃ R QS : List Nat,
      e = .returned (.slice (some ⟨gr, 0, none⟩) r rc) ∧ r = (dig (val (Y.take L) % val bs)).length ∧ r ≤ rc ∧ rc ≤ R.length ∧ R.length = Y.length ∧ Digs R ∧ R.take r = dig (val (Y.take L) % val bs) ∧ Whole w' base gr 3 (nats R) ∧
      Whole w' base gq 3 (nats (qrow Z QS 0)) ∧ QS.length ≤ L ∧ Digs QS ∧ val QS = val (Y.take L) / val bs ∧ Leaves w w' gr gq := by
  have HBL := Lib.hid (show bs.length = m by simpa [nats_len] using hB.1)
  have hV : 0 < val bs := by
    have := can_pos hbs (by have := HBL.out; omega)
    have := pow_pos (bs.length - 1)
    omega
  have HV := Lib.hid hV
  have HVm := Lib.hid (show val bs < 1000000000 ^ m by have := val_lt hbs.1; rwa [HBL.out] at this)
  have HYC := Lib.hid hYc
  have HYD := Lib.hid hYd
  have HBS := Lib.hid hbs
  have HY := Lib.hid hY
  have HZ := Lib.hid hZ
  have HB := Lib.hid hB
  have HBR := Lib.hid hBr
  clear hV hYc hYd hbs hY hZ hB hBr
  by_cases hlt : L < m
  · have hl : (Y.take L).length = L := by simp; omega
    have hvl := val_lt_len HYC.out.1 HBS.out (by rw [hl, HBL.out]; exact hlt)
    have HMOD := Lib.hid (Nat.mod_eq_of_lt hvl)
    have HDIV := Lib.hid (Nat.div_eq_of_lt hvl)
    have HDG := Lib.hid (dig_of_can HYC.out)
    have HTL := Lib.hid hl
    clear hvl hl
    go_enter Try.func88, Try.ntmps88
    go_wp2
    go_ret
    refine ⟨L, c, Y, [], rfl, ?_, hL, hcY, rfl, HYD.out, ?_, HY.out, ?_, Nat.zero_le _, Digs.nil, ?_, Leaves.refl _ _ _⟩
    · rw [HMOD.out, HDG.out, HTL.out]
    · rw [HMOD.out, HDG.out]
    · rw [qrow_nil]; exact HZ.out
    · rw [HDIV.out]; rfl
  · go_enter Try.func88, Try.ntmps88
    go_wp2
    go_loopw [8, 9] (fun a i wr => ∃ (k h : Nat) (R QS : List Nat), k ≤ L - m + 1 ∧ i = .int .i64 ((k : Int) - 1) ∧ a = .int .i64 h ∧ Red Y R QS (val bs) k L m h ∧ Whole wr base gr 3 (nats R) ∧ Whole wr base gq 3 (nats (qrow Z QS k)) ∧ Leaves w wr gr gq) (fun _ i _ => (intOf i + 1).toNat)
    case atStart => exact ⟨L - m + 1, 0, Y, [], Nat.le_refl _, by go_num, rfl, red_start Y bs L m HYD.out (by omega) hm (by omega) HBL.out HBS.out, HY.out, by rw [qrow_nil]; exact HZ.out, Leaves.refl _ _ _⟩
    case round =>
      obtain ⟨k, h, R, QS, hk, rfl, rfl, hred, hwr, hwq, hlv⟩ := hrel
      have HRED := Lib.hid hred
      have HWR := Lib.hid hwr
      have HWQ := Lib.hid hwq
      have HLV := Lib.hid hlv
      have hRl : R.length = Y.length := hred.len
      have hhb := hred.hb
      clear hred hwr hwq hlv
      by_cases h0 : k = 0
      · subst h0
        have HEND := Lib.hid (red_end HRED.out hm (by omega) (by omega))
        have HRD := Lib.hid HRED.out.digs
        have hrow : VRow wr (some ⟨gr, 0, none⟩) m (nats (R.take m)) := by
          have hh := HWR.out.row 0 m (by rw [nats_len]; omega)
          rwa [List.drop_zero, nats_take] at hh
        have HROW := Lib.hid hrow
        clear hrow
        go_wp2_with fail
        refine (trimmed_any _ m m (R.take m) _ HROW.out (HRD.out.take m) (Nat.le_refl _) (by unfold maxLen; omega) (fun hh => by simp at hh)).mono ?_
        rintro e w1 ⟨rfl, rfl⟩
        have hdl : (dig (val (R.take m))).length ≤ m := Nat.le_trans (dig_le_len (HRD.out.take m)) (by simp; omega)
        have htk := take_dig (HRD.out.take m)
        rw [List.take_take, Nat.min_eq_left hdl] at htk
        rw [HEND.out.2.1] at hdl htk ⊢
        have HTK := Lib.hid htk
        clear htk
        go_wp2
        go_ret
        refine ⟨_, _, R, QS, rfl, rfl, Nat.le_refl _, by omega, hRl, HRD.out, HTK.out, HWR.out, HWQ.out, by have := HEND.out.2.2; omega, HRED.out.qd, HEND.out.1, HLV.out⟩
      · obtain ⟨i, rfl⟩ : ∃ i, k = i + 1 := ⟨k - 1, by omega⟩
        have hwi : ((i + 1 : Nat) : Int) - 1 = (i : Int) := by omega
        rw [hwi]
        clear hwi
        obtain ⟨hwl, hwd, y, hy1, hyb, hU, hy2⟩ := red_window HRED.out hm (by omega) (by omega)
        have hUlt : val ((R.drop i).take m) + 1000000000 ^ m * h < 1000000000 * val bs := by rw [hU]; have := HRED.out.rem; omega
        have HWL := Lib.hid hwl
        have HWD := Lib.hid hwd
        have HUL := Lib.hid hUlt
        have hrow : VRow wr (some ⟨gr, i, none⟩) m (nats ((R.drop i).take m)) := by
          have hh := HWR.out.row i m (by rw [nats_len]; omega)
          rwa [nats_drop, nats_take] at hh
        have HROW := Lib.hid hrow
        have HBB := Lib.hid (HB.out.leaves HLV.out (fun _ => HBR.out))
        clear hwl hwd hUlt hU hrow hyb hy2 hy1
        have hic : i + m ≤ c := by omega
        have hicz : (i : Int) + (m : Int) ≤ (c : Int) := by omega
        go_wp2_with fail
        rw [show i + m - i = m by omega]
        refine (estimate_any _ _ m _ _ h _ bs _ HROW.out HBB.out HWD.out HBS.out hm (by omega) hhb HUL.out).mono ?_
        rintro e w2 ⟨q, rfl, hest, k2, rfl⟩
        have HEST := Lib.hid hest
        have hqb : q ≤ 1000000000 := hest.2.2
        clear hest
        go_wp2_with fail
        refine (subtractTimes_any gr i m _ base R _ m d bs q _ (by first | rfl | omega) _ (HWR.out.drewN k2) (by omega) HRED.out.digs (HBB.out.drewN k2) (fun _ a ha => (HBR.out a ha).1) HBS.out.1 hqb (by omega) (by omega)).mono ?_
        rintro e w3 ⟨rfl, hw3, hg3⟩
        have HW3 := Lib.hid hw3
        have HLV3 := Lib.hid ((HLV.out.drewN k2).grown1 hg3)
        have HQ3 := Lib.hid ((HWQ.out.drewN k2).kept hg3 (by simp; exact fun e => hrq e.symm))
        clear hw3 hg3
        obtain ⟨ws, hws⟩ : ∃ ws, (R.drop i).take m = ws := ⟨_, rfl⟩
        have hRR := red_right ws bs m h q (by rw [← hws]; exact HWL.out) HBL.out (by rw [← hws]; exact HWD.out) HBS.out.1 HV.out (by rw [← hws]; exact HEST.out)
        have hRW := red_wrong ws bs m h q (by rw [← hws]; exact HWL.out) HBL.out (by rw [← hws]; exact HWD.out) HBS.out.1 HV.out (by rw [← hws]; exact HEST.out)
        have HNEXT := Lib.hid (fun G q hG => red_next (i := i) HRED.out hm (by omega) (by omega) HV.out HVm.out G q hG)
        rw [hws] at HW3 HNEXT ⊢
        have HWSD := Lib.hid (show Digs ws by rw [← hws]; exact HWD.out)
        clear hws
        have hbob := bor_le ws bs q m HBS.out.1 hqb
        by_cases hgt : h < bor ws bs q m
        · have HW := Lib.hid (hRW hgt)
          have hq0 := HW.out.1
          have hgtz : (h : Int) < ((bor ws bs q m : Nat) : Int) := by omega
          clear hRR hRW
          obtain ⟨bo, hbo⟩ : ∃ bo, bor ws bs q m = bo := ⟨_, rfl⟩
          rw [hbo] at hgtz hbob ⊢
          clear hbo hgt
          have hul := upd_len R i m (difAt ws bs q) (by omega)
          have HUD := Lib.hid (digs_upd (o := i) HRED.out.digs (difAt_digs ws bs q m HWSD.out))
          go_wp2_with fail
          refine (addTimes_any gr i m _ base (upd R i m (difAt ws bs q)) _ m d bs 1 _ (by first | rfl | omega) _ HW3.out (by omega) HUD.out ((HB.out.leaves HLV3.out (fun _ => HBR.out))) (fun _ a ha => (HBR.out a ha).1) HBS.out.1 (by omega) (by omega) (by omega)).mono ?_
          rintro e w4 ⟨rfl, hw4, hg4⟩
          rw [upd_win R i m _ (by omega), upd_upd _ _ _ _ _ (by omega)] at hw4
          have HW4 := Lib.hid hw4
          have HLV4 := Lib.hid (HLV3.out.grown1 hg4)
          have HQ4 := Lib.hid (HQ3.out.kept hg4 (by simp; exact fun e => hrq e.symm))
          clear hw4 hg4 hul
          have HND := Lib.hid (HNEXT.out _ _ (sumAt_digs _ _ _ _) HW.out.2.1 HW.out.2.2)
          have hulen : (upd R i m (sumAt ((List.range m).map (difAt ws bs q)) bs 1)).length = Y.length := HND.out.1.len
          have hcellr : w4.cell? ⟨gr, i + (m - 1), none⟩ = some (.int .i64 (((upd R i m (sumAt ((List.range m).map (difAt ws bs q)) bs 1)).getD (i + m - 1) 0 : Nat) : Int)) := by
            rw [HW4.out.cell (i + (m - 1)) (by rw [nats_len]; omega), nats_get]
            congr 3
            have e : i + m - 1 = i + (m - 1) := by omega
            rw [e]
            simp [List.getD, List.getElem?_eq_getElem (show i + (m - 1) < (upd R i m (sumAt ((List.range m).map (difAt ws bs q)) bs 1)).length by omega)]
          have hqz : i < (qrow Z QS (i + 1)).length := by rw [qrow_len _ _ _ (by have := HRED.out.ql; omega)]; omega
          have hcellq : w4.cell? ⟨gq, i, none⟩ = some (.int .i64 (((qrow Z QS (i + 1))[i]'hqz : Nat) : Int)) := by
            rw [HQ4.out.cell i (by rw [nats_len]; exact hqz), nats_get]
          have hfzq := HQ4.out.frozen i
          have HSQ := Lib.hid (HQ4.out.set i (.int .i64 (((q - 1) : Nat) : Int)))
          have HSG := Lib.hid (HQ4.out.setGrown i (.int .i64 (((q - 1) : Nat) : Int)))
          have HRK := Lib.hid (HW4.out.kept HSG.out (by simp; exact hrq))
          obtain ⟨h', hh'⟩ : ∃ h', (upd R i m (sumAt ((List.range m).map (difAt ws bs q)) bs 1)).getD (i + m - 1) 0 = h' := ⟨_, rfl⟩
          rw [hh'] at hcellr
          have HHH := Lib.hid hh'
          clear hh'
          obtain ⟨zz, hzz⟩ : ∃ zz, (qrow Z QS (i + 1))[i]'hqz = zz := ⟨_, rfl⟩
          rw [hzz] at hcellq
          clear hzz hqz hulen
          have hinq : i < nq := by omega
          have hinqz : (i : Int) < (nq : Int) := by omega
          have hm1 : IntKind.i64.wrap ((m : Int) - 1) = ((m - 1 : Nat) : Int) := by rw [IntKind.wrap_i64]; omega
          have hm1z : ((m - 1 : Nat) : Int) = (m : Int) - 1 := by omega
          have hmlt : m - 1 < m := by omega
          have hgne : ¬ gq = gr := fun e => hrq e.symm
          have hcell5 : ∀ u, (w4.setCell ⟨gq, i, none⟩ u).cell? ⟨gr, i + (m - 1), none⟩ = some (.int .i64 (h' : Int)) := by
            intro u
            rw [World.cell?_setCell_other _ _ _ _ (by simp)]
            exact hcellr
          clear hm1z
          have hqs : ((q - 1 : Nat) : Int) = (q : Int) - 1 := by omega
          rw [hqs] at HSQ HSG HRK
          go_wp2
          refine ⟨⟨i, h', _, (q - 1) :: QS, by omega, by go_num, rfl, HHH.out ▸ HND.out.1, HRK.out, ?_, (HLV4.out.grown2 HSG.out)⟩, by simp [intOf]⟩
          have hz := HSQ.out
          rw [← hqs, nats_set, qrow_set _ _ _ _ (by have := HRED.out.ql; omega), hqs] at hz
          exact hz
        · have HR := Lib.hid (hRR (by omega))
          have hgtz : ¬ (h : Int) < ((bor ws bs q m : Nat) : Int) := by omega
          clear hRR hRW
          obtain ⟨bo, hbo⟩ : ∃ bo, bor ws bs q m = bo := ⟨_, rfl⟩
          rw [hbo] at hgtz hbob ⊢
          clear hbo hgt
          obtain ⟨w4, hw4e⟩ : ∃ w4, w4 = w3 := ⟨_, rfl⟩
          subst hw4e
          have HW4 := HW3
          have HLV4 := HLV3
          have HQ4 := HQ3
          have HND := Lib.hid (HNEXT.out _ _ (difAt_digs _ _ _ _ HWSD.out) HR.out.1 HR.out.2)
          have hulen : (upd R i m (difAt ws bs q)).length = Y.length := HND.out.1.len
          have hcellr : w4.cell? ⟨gr, i + (m - 1), none⟩ = some (.int .i64 (((upd R i m (difAt ws bs q)).getD (i + m - 1) 0 : Nat) : Int)) := by
            rw [HW4.out.cell (i + (m - 1)) (by rw [nats_len]; omega), nats_get]
            congr 3
            have e : i + m - 1 = i + (m - 1) := by omega
            rw [e]
            simp [List.getD, List.getElem?_eq_getElem (show i + (m - 1) < (upd R i m (difAt ws bs q)).length by omega)]
          have hqz : i < (qrow Z QS (i + 1)).length := by rw [qrow_len _ _ _ (by have := HRED.out.ql; omega)]; omega
          have hcellq : w4.cell? ⟨gq, i, none⟩ = some (.int .i64 (((qrow Z QS (i + 1))[i]'hqz : Nat) : Int)) := by
            rw [HQ4.out.cell i (by rw [nats_len]; exact hqz), nats_get]
          have hfzq := HQ4.out.frozen i
          have HSQ := Lib.hid (HQ4.out.set i (.int .i64 ((q : Nat) : Int)))
          have HSG := Lib.hid (HQ4.out.setGrown i (.int .i64 ((q : Nat) : Int)))
          have HRK := Lib.hid (HW4.out.kept HSG.out (by simp; exact hrq))
          obtain ⟨h', hh'⟩ : ∃ h', (upd R i m (difAt ws bs q)).getD (i + m - 1) 0 = h' := ⟨_, rfl⟩
          rw [hh'] at hcellr
          have HHH := Lib.hid hh'
          clear hh'
          obtain ⟨zz, hzz⟩ : ∃ zz, (qrow Z QS (i + 1))[i]'hqz = zz := ⟨_, rfl⟩
          rw [hzz] at hcellq
          clear hzz hqz hulen
          have hinq : i < nq := by omega
          have hinqz : (i : Int) < (nq : Int) := by omega
          have hm1 : IntKind.i64.wrap ((m : Int) - 1) = ((m - 1 : Nat) : Int) := by rw [IntKind.wrap_i64]; omega
          have hm1z : ((m - 1 : Nat) : Int) = (m : Int) - 1 := by omega
          have hmlt : m - 1 < m := by omega
          have hgne : ¬ gq = gr := fun e => hrq e.symm
          have hcell5 : ∀ u, (w4.setCell ⟨gq, i, none⟩ u).cell? ⟨gr, i + (m - 1), none⟩ = some (.int .i64 (h' : Int)) := by
            intro u
            rw [World.cell?_setCell_other _ _ _ _ (by simp)]
            exact hcellr
          clear hm1z
          go_wp2
          refine ⟨⟨i, h', _, q :: QS, by omega, by go_num, rfl, HHH.out ▸ HND.out.1, HRK.out, ?_, (HLV4.out.grown2 HSG.out)⟩, by simp [intOf]⟩
          have hz := HSQ.out
          rw [nats_set, qrow_set _ _ _ _ (by have := HRED.out.ql; omega)] at hz
          exact hz
end Go.Proofs.Ytdilbhkdkppodaa
