/- Fractions: copies, the smaller and the greater of two, in the model and in the program. Conditions: none. -/
import Derived.Test.YtbblfledkmcfmabProg
import Derived.Test.YtbblfledkmcfmabRat3c
import Derived.Test.YtbblfledkmcfmabRat4c
import Derived.Test.YtbblfledkmcfmabFresh
import Derived.Deep.DeepCutAuto
namespace Go.Proofs.Ytbblfledkmcfmab
open Go.RowKit Nt
set_option linter.unusedVariables false

/-- One of two fractions where both are valid, else the zero value. -/
def slS (ok p s t : Bool) : Bool := ok && (if p = true then s else t)
def slN (ok p : Bool) (xs us : List Int) : List Nat := if ok = true then (if p = true then toN xs else toN us) else []
def mnP (s : Bool) (xs ys : List Int) (t : Bool) (us vs : List Int) : Bool := decide (cmpZ (zOf s xs * (val (toN vs) : Int)) (zOf t us * (val (toN ys) : Int)) ≤ 0)
def mnS (s : Bool) (xs ys : List Int) (t : Bool) (us vs : List Int) : Bool := slS (okR s xs ys && okR t us vs) (mnP s xs ys t us vs) s t
def mnN (s : Bool) (xs ys : List Int) (t : Bool) (us vs : List Int) : List Nat := slN (okR s xs ys && okR t us vs) (mnP s xs ys t us vs) xs us
def mnD (s : Bool) (xs ys : List Int) (t : Bool) (us vs : List Int) : List Nat := slN (okR s xs ys && okR t us vs) (mnP s xs ys t us vs) ys vs
theorem mnN_len (s : Bool) (xs ys : List Int) (t : Bool) (us vs : List Int) : (mnN s xs ys t us vs).length ≤ 60 := by
  unfold mnN slN
  split
  · next h =>
    have h1 := okR_parts (Bool.and_eq_true_iff.mp h).1
    have h2 := okR_parts (Bool.and_eq_true_iff.mp h).2
    split <;> (rw [toN_len]; omega)
  · simp
theorem mnD_len (s : Bool) (xs ys : List Int) (t : Bool) (us vs : List Int) : (mnD s xs ys t us vs).length ≤ 60 := by
  unfold mnD slN
  split
  · next h =>
    have h1 := okR_parts (Bool.and_eq_true_iff.mp h).1
    have h2 := okR_parts (Bool.and_eq_true_iff.mp h).2
    split <;> (rw [toN_len]; omega)
  · simp
def mxP (s : Bool) (xs ys : List Int) (t : Bool) (us vs : List Int) : Bool := decide (0 ≤ cmpZ (zOf s xs * (val (toN vs) : Int)) (zOf t us * (val (toN ys) : Int)))
def mxS (s : Bool) (xs ys : List Int) (t : Bool) (us vs : List Int) : Bool := slS (okR s xs ys && okR t us vs) (mxP s xs ys t us vs) s t
def mxN (s : Bool) (xs ys : List Int) (t : Bool) (us vs : List Int) : List Nat := slN (okR s xs ys && okR t us vs) (mxP s xs ys t us vs) xs us
def mxD (s : Bool) (xs ys : List Int) (t : Bool) (us vs : List Int) : List Nat := slN (okR s xs ys && okR t us vs) (mxP s xs ys t us vs) ys vs
theorem mxN_len (s : Bool) (xs ys : List Int) (t : Bool) (us vs : List Int) : (mxN s xs ys t us vs).length ≤ 60 := by
  unfold mxN slN
  split
  · next h =>
    have h1 := okR_parts (Bool.and_eq_true_iff.mp h).1
    have h2 := okR_parts (Bool.and_eq_true_iff.mp h).2
    split <;> (rw [toN_len]; omega)
  · simp
theorem mxD_len (s : Bool) (xs ys : List Int) (t : Bool) (us vs : List Int) : (mxD s xs ys t us vs).length ≤ 60 := by
  unfold mxD slN
  split
  · next h =>
    have h1 := okR_parts (Bool.and_eq_true_iff.mp h).1
    have h2 := okR_parts (Bool.and_eq_true_iff.mp h).2
    split <;> (rw [toN_len]; omega)
  · simp
theorem sl_no {ok p s t : Bool} {xs us : List Int} (h : ok = false) : slS ok p s t = false ∧ slN ok p xs us = [] := by simp [slS, slN, h]
theorem sl_left {ok p s t : Bool} {xs us : List Int} (h : ok = true) (hp : p = true) : slS ok p s t = s ∧ slN ok p xs us = toN xs := by simp [slS, slN, h, hp]
theorem sl_right {ok p s t : Bool} {xs us : List Int} (h : ok = true) (hp : p = false) : slS ok p s t = t ∧ slN ok p xs us = toN us := by simp [slS, slN, h, hp]
set_option maxRecDepth 100000 in
set_option maxHeartbeats 4000000 in
theorem copiedR_at (s : Bool) (A : Option Addr) (n c : Nat) (xs : List Int) (B : Option Addr) (m d : Nat) (ys : List Int) (RS : Bool) (RN RD : List Nat) (hS : s = RS) (hN : toN xs = RN) (hD : toN ys = RD) (hok : okR s xs ys = true) (w : World) (hA : Arg w A n c (ints xs)) (hB : Arg w B m d (ints ys)) :
    Calls Try.prog 23 #[.agg #[.bool s, .slice A n c, .slice B m d]] w (OwnRR 3 RS (nats RN) (nats RD) w) := by
  obtain ⟨hex, hey, hval⟩ := okR_nats hok
  have HAn := Lib.hid (hN ▸ hex ▸ hA)
  have HBn := Lib.hid (hD ▸ hey ▸ hB)
  have hm : m ≤ 24 := by have := HBn.out.nlen; have := hval.2.2.2.1; rw [hD] at this; omega
  have hn : n ≤ 24 := by have := HAn.out.nlen; have := hval.2.2.1; rw [hN] at this; omega
  have HSG := Lib.hid (show (s && decide (0 < n)) = RS by
    rw [← hS, ← hA.ilen]
    cases s
    · rfl
    · simp [okB_len (okR_parts hok).1])
  clear hex hey hval hS hN hD hok
  have HA := Lib.hid hA
  have HB := Lib.hid hB
  clear hA hB
  go_enter Try.func23, Try.ntmps23
  have HB_0 := Lib.hid (((Below.refl w.heap.size w).alloc (Nat.le_refl _) (.cells #[.bool s, .slice A n c, .slice B m d] 30)).alloc (by simp) (.cells #[.bool false, .slice none 0 0, .slice none 0 0] 30))
  have K_a_0 := Lib.hid ((HeldL.new_at w (w.heap.size) [.bool s, .slice A n c, .slice B m d] 30 (by first | rfl | simp)).alloc (.cells #[.bool false, .slice none 0 0, .slice none 0 0] 30))
  have K_res_0 := Lib.hid (HeldL.new_at (w.alloc (.cells #[.bool s, .slice A n c, .slice B m d] 30)) (w.heap.size + 1) [.bool false, .slice none 0 0, .slice none 0 0] 30 (by first | rfl | simp))
  have hne_a_res : w.heap.size ≠ w.heap.size + 1 := by omega
  have hne_res_a : w.heap.size + 1 ≠ w.heap.size := by omega
  go_upto_region 1 with fail
  obtain ⟨w0, hw0⟩ : ∃ u, ((w.alloc (.cells #[.bool s, .slice A n c, .slice B m d] 30)).alloc (.cells #[.bool false, .slice none 0 0, .slice none 0 0] 30)) = u := ⟨_, rfl⟩
  rw [hw0] at K_a_0 K_res_0 HB_0 ⊢
  clear hw0
  have hk_a_0_0 := K_a_0.out.cell 0 _ rfl
  have hk_a_1_0 := K_a_0.out.cell 1 _ rfl
  have hk_a_2_0 := K_a_0.out.cell 2 _ rfl
  have hk_res_0_0 := K_res_0.out.cell 0 _ rfl
  have hk_res_0_0f := K_res_0.out.froz 0 _ rfl
  have hk_res_1_0 := K_res_0.out.cell 1 _ rfl
  have hk_res_1_0f := K_res_0.out.froz 1 _ rfl
  have hk_res_2_0 := K_res_0.out.cell 2 _ rfl
  have hk_res_2_0f := K_res_0.out.froz 2 _ rfl
  go_wp2
  go_region_held3 (fun w' => w'.cell? ⟨w.heap.size, 0, none⟩ = some (.bool s) ∧ w'.cell? ⟨w.heap.size, 1, none⟩ = some (.slice A n c) ∧ w'.cell? ⟨w.heap.size, 2, none⟩ = some (.slice B m d)) (go_keep)
    (first
      | (go_at_call_of 41 (Value.slice A n c)
         refine (rowOf_any A n c n _ rfl RN _ (HAn.out.below HB_0.out.drew (Nat.le_refl _)).1 ?_ ?_).mono ?_
         omega
         omega
         rintro e w1 ⟨rfl, hwh, hb⟩
         rw [Nat.sub_self, List.replicate_zero, List.append_nil] at hwh
         have ho := OwnV.of_whole_n hwh (show (nats RN).length = n by rw [nats_len]; exact HAn.out.nlen)
         have HO1 := Lib.hid ho
         clear ho hwh
         have K_a_1 := Lib.hid (K_a_0.out.drew.after hb)
         have K_res_1 := Lib.hid (K_res_0.out.drew.after hb)
         have HB_1 := Lib.hid (HB_0.out.drew.trans (hb.mono HB_0.out.drew.size))
         clear hb
         have hk_a_0_1 := K_a_1.out.cell 0 _ rfl
         have hk_a_1_1 := K_a_1.out.cell 1 _ rfl
         have hk_a_2_1 := K_a_1.out.cell 2 _ rfl)
      | (go_at_call 40
         refine (bigIntWith_any s (some ⟨w0.heap.size, 0, none⟩) n n _ ?_).mono ?_
         omega
         rintro e w2 ⟨rfl, hb⟩
         rw [HSG.out]
         have K_a_2 := Lib.hid (K_a_1.out.after hb)
         have K_res_2 := Lib.hid (K_res_1.out.after hb)
         have H_O1_2 := Lib.hid (OwnV.below (w := w1) HO1.out hb)
         have HB_2 := Lib.hid (HB_1.out.trans (hb.mono HB_1.out.size))
         clear hb
         have hk_a_0_2 := K_a_2.out.cell 0 _ rfl
         have hk_a_1_2 := K_a_2.out.cell 1 _ rfl
         have hk_a_2_2 := K_a_2.out.cell 2 _ rfl)
      | (go_at_call_of 41 (Value.slice B m d)
         refine (rowOf_any B m d m _ rfl RD _ (HBn.out.below HB_2.out (Nat.le_refl _)).1 ?_ ?_).mono ?_
         omega
         omega
         rintro e w3 ⟨rfl, hwh, hb⟩
         rw [Nat.sub_self, List.replicate_zero, List.append_nil] at hwh
         have ho := OwnV.of_whole_n hwh (show (nats RD).length = m by rw [nats_len]; exact HBn.out.nlen)
         have AP_O1_O2 := Lib.hid (OwnV.apart H_O1_2.out ho (Nat.le_refl _))
         have AP_O2_O1 := Lib.hid (OwnV.apart' ho H_O1_2.out (Nat.le_refl _))
         have HO2 := Lib.hid ho
         clear ho hwh
         have K_a_3 := Lib.hid (K_a_2.out.after hb)
         have K_res_3 := Lib.hid (K_res_2.out.after hb)
         have H_O1_3 := Lib.hid (OwnV.below (w := w2) H_O1_2.out hb)
         have HB_3 := Lib.hid (HB_2.out.trans (hb.mono HB_2.out.size))
         clear hb
         have hk_a_0_3 := K_a_3.out.cell 0 _ rfl
         have hk_a_1_3 := K_a_3.out.cell 1 _ rfl
         have hk_a_2_3 := K_a_3.out.cell 2 _ rfl
         have hk_res_0_3 := K_res_3.out.cell 0 _ rfl
         have hk_res_0_3f := K_res_3.out.froz 0 _ rfl
         have hk_res_1_3 := K_res_3.out.cell 1 _ rfl
         have hk_res_1_3f := K_res_3.out.froz 1 _ rfl
         have hk_res_2_3 := K_res_3.out.cell 2 _ rfl
         have hk_res_2_3f := K_res_3.out.froz 2 _ rfl))
  go_wp2
  have hr0 := K_res_3.out.cell 0 _ rfl
  have hr1 := K_res_3.out.cell 1 _ rfl
  have hr2 := K_res_3.out.cell 2 _ rfl
  exact bodyPost_ret (v := .agg #[.bool RS, .slice (some ⟨w0.heap.size, 0, none⟩) n n, .slice (some ⟨w2.heap.size, 0, none⟩) m m]) (by simp [results, Try.results23, go_sem, hr0, hr1, hr2]) rfl (ownRR_close HB_3.out H_O1_3.out HO2.out K_res_0.out.lt K_res_2.out.lt (by omega) AP_O1_O2.out AP_O2_O1.out)
set_option maxRecDepth 100000 in
set_option maxHeartbeats 4000000 in
theorem l04Copy_at (s : Bool) (A : Option Addr) (n c : Nat) (xs : List Int) (B : Option Addr) (m d : Nat) (ys : List Int) (RS : Bool) (RN RD : List Nat) (hS : s = RS) (hN : toN xs = RN) (hD : toN ys = RD) (hok : okR s xs ys = true) (w : World) (hA : Arg w A n c (ints xs)) (hB : Arg w B m d (ints ys)) :
    Calls Try.prog 18 #[.agg #[.bool s, .slice A n c, .slice B m d]] w (OwnRR 3 RS (nats RN) (nats RD) w) := by
  obtain ⟨i0, hi, hz0, hz1, hz2⟩ := info_parts info_int
  obtain ⟨hex, hey, hval⟩ := okR_nats hok
  have HAn := Lib.hid (hN ▸ hex ▸ hA)
  have HBn := Lib.hid (hD ▸ hey ▸ hB)
  have hmm : m = RD.length := HBn.out.nlen.symm
  have hnn : n = RN.length := HAn.out.nlen.symm
  have hm0 : 0 < m := by have := hval.2.2.2.2; rw [hD] at this; omega
  have hm1 : m ≤ 24 := by have := hval.2.2.2.1; rw [hD] at this; omega
  have hn1 : n ≤ 24 := by have := hval.2.2.1; rw [hN] at this; omega
  have HM0 := Lib.hid hm0
  have HM1 := Lib.hid (show m ≤ maxLen by unfold maxLen; omega)
  have HM2 := Lib.hid (show m * 8 ≤ 140737488355328 by omega)
  have HN1 := Lib.hid (show n ≤ maxLen by unfold maxLen; omega)
  have HN2 := Lib.hid (show n * 8 ≤ 140737488355328 by omega)
  have HOC := Lib.hid (nats_oneCell RD)
  have HOCN := Lib.hid (nats_oneCell RN)
  subst hS
  clear hex hey hval hN hD hok hmm hnn hm0 hm1 hn1
  have HA := Lib.hid hA
  have HB := Lib.hid hB
  clear hA hB
  go_enter Try.func18, Try.ntmps18
  have HB_0 := Lib.hid (((Below.refl w.heap.size w).alloc (Nat.le_refl _) (.cells #[.bool s, .slice A n c, .slice B m d] 30)).alloc (by simp) (.cells #[.bool false, .slice none 0 0, .slice none 0 0] 30))
  have K_a_0 := Lib.hid ((HeldL.new_at w (w.heap.size) [.bool s, .slice A n c, .slice B m d] 30 (by first | rfl | simp)).alloc (.cells #[.bool false, .slice none 0 0, .slice none 0 0] 30))
  have K_res_0 := Lib.hid (HeldL.new_at (w.alloc (.cells #[.bool s, .slice A n c, .slice B m d] 30)) (w.heap.size + 1) [.bool false, .slice none 0 0, .slice none 0 0] 30 (by first | rfl | simp))
  have hne_a_res : w.heap.size ≠ w.heap.size + 1 := by omega
  have hne_res_a : w.heap.size + 1 ≠ w.heap.size := by omega
  go_upto_region 1 with fail
  obtain ⟨w0, hw0⟩ : ∃ u, ((w.alloc (.cells #[.bool s, .slice A n c, .slice B m d] 30)).alloc (.cells #[.bool false, .slice none 0 0, .slice none 0 0] 30)) = u := ⟨_, rfl⟩
  rw [hw0] at K_a_0 K_res_0 HB_0 ⊢
  clear hw0
  have hk_a_0_0 := K_a_0.out.cell 0 _ rfl
  have hk_a_1_0 := K_a_0.out.cell 1 _ rfl
  have hk_a_2_0 := K_a_0.out.cell 2 _ rfl
  have hk_res_0_0 := K_res_0.out.cell 0 _ rfl
  have hk_res_0_0f := K_res_0.out.froz 0 _ rfl
  have hk_res_1_0 := K_res_0.out.cell 1 _ rfl
  have hk_res_1_0f := K_res_0.out.froz 1 _ rfl
  have hk_res_2_0 := K_res_0.out.cell 2 _ rfl
  have hk_res_2_0f := K_res_0.out.froz 2 _ rfl
  go_cut [2] (fun ptr wx => ptr = .pointer (some ⟨w.heap.size + 1, 0, none⟩) ∧ ∃ A1 c1 A2 c2, HeldL wx (w.heap.size + 1) [.bool s, .slice A1 (nats RN).length c1, .slice A2 (nats RD).length c2] ∧ OwnV wx w.heap.size 3 (.slice A1 (nats RN).length c1) (nats RN) ∧ OwnV wx w.heap.size 3 (.slice A2 (nats RD).length c2) (nats RD) ∧ ((Value.slice A1 (nats RN).length c1).ownBlock = none ∨ (Value.slice A1 (nats RN).length c1).ownBlock ≠ (Value.slice A2 (nats RD).length c2).ownBlock) ∧ ((Value.slice A2 (nats RD).length c2).ownBlock = none ∨ (Value.slice A2 (nats RD).length c2).ownBlock ≠ (Value.slice A1 (nats RN).length c1).ownBlock) ∧ Below w.heap.size w wx)
  case first =>
    have HW1 := Lib.hid (whole_empty w0 3)
    have HW2 := Lib.hid (Whole.below (whole_empty w0 3) ((Below.refl _ (w0.alloc (.cells #[] 3))).alloc (Nat.le_refl _) (.cells #[] 3)))
    have HW3 := Lib.hid (show Whole ((w0.alloc (.cells #[] 3)).alloc (.cells #[] 3)) w0.heap.size (w0.heap.size + 1) 3 [] by have h := whole_empty (w0.alloc (.cells #[] 3)) 3; have h2 := whole_of (base := w0.heap.size) (by simp) (whole_heap h) (by unfold maxLen; decide); simpa using h2)
    go_region_held3 (fun w' => w'.cell? ⟨w.heap.size, 0, none⟩ = some (.bool s) ∧ w'.cell? ⟨w.heap.size, 1, none⟩ = some (.slice A n c) ∧ w'.cell? ⟨w.heap.size, 2, none⟩ = some (.slice B m d)) (go_keep)
      (first
        | (refine step_append_row rfl (.tmp 6) (.tmp 9) 22 rfl 3 i0 _ 8 Try.underlying22 hi hz0 hz1 hz2 rfl w0.heap.size _ (by simp [Act.eval] <;> rfl) A n c (nats RN) (by simp [Act.eval] <;> rfl) HA.out.2.2.2 HN1.out HN2.out HOCN.out ?_ ?_ ?_ ?_
           first | exact HW1.out | exact HW2.out | exact HW3.out
           first | exact (HAn.out.below (HB_0.out.alloc HB_0.out.size (.cells #[] 3)).drew (Nat.le_refl _)).1 | exact (HAn.out.below ((HB_0.out.alloc HB_0.out.size (.cells #[] 3)).alloc (HB_0.out.alloc HB_0.out.size (.cells #[] 3)).size (.cells #[] 3)).drew (Nat.le_refl _)).1
           simp <;> omega
           intro A1 c1 w1 ho hb
           have T9 : Below w0.heap.size w0 w1 := by first | exact (((Below.refl _ w0).alloc (Nat.le_refl _) (.cells #[] 3)).drew).trans hb | exact ((((Below.refl _ w0).alloc (Nat.le_refl _) (.cells #[] 3)).alloc (by simp) (.cells #[] 3)).drew).trans hb
           have HX1 := Lib.hid T9
           clear T9 hb
           have KA1 := Lib.hid (K_a_0.out.after HX1.out)
           have KR1 := Lib.hid (K_res_0.out.after HX1.out)
           have HO1 := Lib.hid ho
           clear ho
           have HB1 := Lib.hid (HB_0.out.trans (HX1.out.mono HB_0.out.size))
           have hka1_0 := KA1.out.cell 0 _ rfl
           have hka1_1 := KA1.out.cell 1 _ rfl
           have hka1_2 := KA1.out.cell 2 _ rfl)
        | (refine step_append_fresh rfl (.tmp 12) (.tmp 14) 22 rfl 3 i0 _ 8 Try.underlying22 hi hz0 hz1 hz2 rfl _ (by simp [Act.eval] <;> rfl) B m d (nats RD) (by simp [Act.eval] <;> rfl) HM0.out HM1.out HM2.out HOC.out ?_ ?_
           first | exact (HBn.out.below HB1.out (Nat.le_refl _)).1 | exact (HBn.out.below (HB1.out.alloc HB1.out.size (.cells #[] 3)) (Nat.le_refl _)).1
           intro A2 c2 w2 ho hb
           have T9 : HeldL w2 (w.heap.size) [.bool s, .slice A n c, .slice B m d] := by first | exact KA1.out.after hb | exact (KA1.out.alloc (.cells #[] 3)).after hb
           have KA2 := Lib.hid T9
           clear T9
           have T9 : HeldL w2 (w.heap.size + 1) [.bool false, .slice none 0 0, .slice none 0 0] := by first | exact KR1.out.after hb | exact (KR1.out.alloc (.cells #[] 3)).after hb
           have KR2 := Lib.hid T9
           clear T9
           have T9 : OwnV w2 w0.heap.size 3 (.slice A1 (nats RN).length c1) (nats RN) := by first | exact OwnV.below HO1.out hb | exact OwnV.below (OwnV.below HO1.out ((Below.refl _ w1).alloc (Nat.le_refl _) (.cells #[] 3))) hb
           have HO1b := Lib.hid T9
           clear T9
           have AP1 := Lib.hid (show (Value.slice A1 (nats RN).length c1).ownBlock = none ∨ (Value.slice A1 (nats RN).length c1).ownBlock ≠ (Value.slice A2 (nats RD).length c2).ownBlock by first | exact OwnV.apart HO1.out ho (Nat.le_refl _) | exact OwnV.apart HO1.out ho (by simp))
           have AP2 := Lib.hid (show (Value.slice A2 (nats RD).length c2).ownBlock = none ∨ (Value.slice A2 (nats RD).length c2).ownBlock ≠ (Value.slice A1 (nats RN).length c1).ownBlock by first | exact OwnV.apart' ho HO1.out (Nat.le_refl _) | exact OwnV.apart' ho HO1.out (by simp))
           have T9 : OwnV w2 w1.heap.size 3 (.slice A2 (nats RD).length c2) (nats RD) := by first | exact ho.based (Nat.le_refl _) | exact ho.based (by simp)
           have HO2 := Lib.hid T9
           clear T9 ho
           have T9 : Below w.heap.size w w2 := by first | exact HB1.out.trans (hb.mono HB1.out.size) | exact (HB1.out.alloc HB1.out.size (.cells #[] 3)).trans (hb.mono (HB1.out.alloc HB1.out.size (.cells #[] 3)).size)
           have HB2 := Lib.hid T9
           clear T9 hb
           have hka2_0 := KA2.out.cell 0 _ rfl
           have hka2_1 := KA2.out.cell 1 _ rfl
           have hka2_2 := KA2.out.cell 2 _ rfl
           have hkr2_0 := KR2.out.cell 0 _ rfl
           have hkr2_1 := KR2.out.cell 1 _ rfl
           have hkr2_2 := KR2.out.cell 2 _ rfl
           have hkf2_0 := KR2.out.froz 0 _ rfl
           have hkf2_1 := KR2.out.froz 1 _ rfl
           have hkf2_2 := KR2.out.froz 2 _ rfl))
    all_goals go_wp2_with fail
    all_goals go_meet
    all_goals refine ⟨rfl, A1, c1, A2, c2, ?_, ?_, ?_, AP1.out, AP2.out, ?_⟩
    all_goals first
      | exact ((KR2.out.set 0 _ _ rfl).set 1 _ _ rfl).set 2 _ _ rfl
      | exact (((HO1b.out.setBelow K_res_0.out.lt _).setBelow K_res_0.out.lt _).setBelow K_res_0.out.lt _).based HB_0.out.size
      | exact (((HO2.out.setBelow KR1.out.lt _).setBelow KR1.out.lt _).setBelow KR1.out.lt _).based HB1.out.size
      | exact ((HB2.out.setCell (by simp) _).setCell (by simp) _).setCell (by simp) _
  clear hk_a_0_0
  clear hk_a_1_0
  clear hk_a_2_0
  clear hk_res_0_0
  clear hk_res_0_0f
  clear hk_res_1_0
  clear hk_res_1_0f
  clear hk_res_2_0
  clear hk_res_2_0f
  obtain ⟨rfl, A1, c1, A2, c2, hkr, ho1, ho2, ap1, ap2, hbw⟩ := hcut
  have HKR := Lib.hid hkr
  have HO1 := Lib.hid ho1
  have HO2 := Lib.hid ho2
  have AP1 := Lib.hid ap1
  have AP2 := Lib.hid ap2
  have HBW := Lib.hid hbw
  clear hkr ho1 ho2 ap1 ap2 hbw
  go_wp2
  have hr0 := HKR.out.cell 0 _ rfl
  have hr1 := HKR.out.cell 1 _ rfl
  have hr2 := HKR.out.cell 2 _ rfl
  exact bodyPost_ret (v := .agg #[.bool s, .slice A1 (nats RN).length c1, .slice A2 (nats RD).length c2]) (by simp [results, Try.results18, go_sem, hr0, hr1, hr2]) rfl ⟨_, _, rfl, HO1.out, HO2.out, AP1.out, AP2.out, HBW.out⟩
set_option maxRecDepth 100000 in
set_option maxHeartbeats 4000000 in
theorem ratMin_spec (s : Bool) (A : Option Addr) (n c : Nat) (xs : List Int) (B : Option Addr) (m d : Nat) (ys : List Int) (t : Bool) (C : Option Addr) (p q : Nat) (us : List Int) (E : Option Addr) (k l : Nat) (vs : List Int) (w : World) (hA : Arg w A n c (ints xs)) (hB : Arg w B m d (ints ys)) (hC : Arg w C p q (ints us)) (hE : Arg w E k l (ints vs)) :
    Calls Try.prog 6 #[.agg #[.bool s, .slice A n c, .slice B m d], .agg #[.bool t, .slice C p q, .slice E k l]] w (OwnRR 3 (mnS s xs ys t us vs) (nats (mnN s xs ys t us vs)) (nats (mnD s xs ys t us vs)) w) := by
  obtain ⟨RS, hRS⟩ : ∃ y9, mnS s xs ys t us vs = y9 := ⟨_, rfl⟩
  obtain ⟨RN, hRN⟩ : ∃ y9, mnN s xs ys t us vs = y9 := ⟨_, rfl⟩
  obtain ⟨RD, hRD⟩ : ∃ y9, mnD s xs ys t us vs = y9 := ⟨_, rfl⟩
  rw [hRS, hRN, hRD]
  have HRS := Lib.hid hRS
  have HRN := Lib.hid hRN
  have HRD := Lib.hid hRD
  clear hRS hRN hRD
  obtain ⟨Q, hQ⟩ : ∃ y9, cmpZ (zOf s xs * (val (toN vs) : Int)) (zOf t us * (val (toN ys) : Int)) = y9 := ⟨_, rfl⟩
  have HQ := Lib.hid hQ
  have HA := Lib.hid hA
  have HB := Lib.hid hB
  have HC := Lib.hid hC
  have HE := Lib.hid hE
  clear hQ hA hB hC hE
  go_enter Try.func6, Try.ntmps6
  have HB_0 := Lib.hid ((((Below.refl w.heap.size w).alloc (Nat.le_refl _) (.cells #[.bool s, .slice A n c, .slice B m d] 30)).alloc (by simp) (.cells #[.bool t, .slice C p q, .slice E k l] 30)).alloc (by simp; omega) (.cells #[.bool false, .slice none 0 0, .slice none 0 0] 30))
  have K_a_0 := Lib.hid (((HeldL.new_at w (w.heap.size) [.bool s, .slice A n c, .slice B m d] 30 (by first | rfl | simp)).alloc (.cells #[.bool t, .slice C p q, .slice E k l] 30)).alloc (.cells #[.bool false, .slice none 0 0, .slice none 0 0] 30))
  have K_b_0 := Lib.hid ((HeldL.new_at (w.alloc (.cells #[.bool s, .slice A n c, .slice B m d] 30)) (w.heap.size + 1) [.bool t, .slice C p q, .slice E k l] 30 (by first | rfl | simp)).alloc (.cells #[.bool false, .slice none 0 0, .slice none 0 0] 30))
  have K_res_0 := Lib.hid (HeldL.new_at ((w.alloc (.cells #[.bool s, .slice A n c, .slice B m d] 30)).alloc (.cells #[.bool t, .slice C p q, .slice E k l] 30)) (w.heap.size + 1 + 1) [.bool false, .slice none 0 0, .slice none 0 0] 30 (by first | rfl | simp))
  have hne_a_b : w.heap.size ≠ w.heap.size + 1 := by omega
  have hne_a_res : w.heap.size ≠ w.heap.size + 1 + 1 := by omega
  have hne_b_a : w.heap.size + 1 ≠ w.heap.size := by omega
  have hne_b_res : w.heap.size + 1 ≠ w.heap.size + 1 + 1 := by omega
  have hne_res_a : w.heap.size + 1 + 1 ≠ w.heap.size := by omega
  have hne_res_b : w.heap.size + 1 + 1 ≠ w.heap.size + 1 := by omega
  go_wp2_with fail
  refine (ratOk_spec s A n c xs B m d ys _ (HA.out.below HB_0.out (Nat.le_refl _)) (HB.out.below HB_0.out (Nat.le_refl _))).mono ?_
  rintro e w1 ⟨rfl, hb⟩
  have K_a_1 := Lib.hid (K_a_0.out.after hb)
  have K_b_1 := Lib.hid (K_b_0.out.after hb)
  have K_res_1 := Lib.hid (K_res_0.out.after hb)
  have HB_1 := Lib.hid (HB_0.out.trans (hb.mono HB_0.out.size))
  clear hb
  by_cases hok : okR s xs ys = true
  · rw [hok]
    have hk_b_0_1 := K_b_1.out.cell 0 _ rfl
    have hk_b_1_1 := K_b_1.out.cell 1 _ rfl
    have hk_b_2_1 := K_b_1.out.cell 2 _ rfl
    go_wp2_with fail
    refine (ratOk_spec t C p q us E k l vs _ (HC.out.below HB_1.out (Nat.le_refl _)) (HE.out.below HB_1.out (Nat.le_refl _))).mono ?_
    rintro e w2 ⟨rfl, hb⟩
    have K_a_2 := Lib.hid (K_a_1.out.after hb)
    have K_b_2 := Lib.hid (K_b_1.out.after hb)
    have K_res_2 := Lib.hid (K_res_1.out.after hb)
    have HB_2 := Lib.hid (HB_1.out.trans (hb.mono HB_1.out.size))
    clear hb
    clear hk_b_0_1
    clear hk_b_1_1
    clear hk_b_2_1
    by_cases hok2 : okR t us vs = true
    · rw [hok2]
      obtain ⟨hex, hey, hval⟩ := okR_nats hok
      have HAn := Lib.hid (hex ▸ HA.out)
      have HBn := Lib.hid (hey ▸ HB.out)
      have HV := Lib.hid hval
      have HOK := Lib.hid hok
      clear hex hey hval hok
      obtain ⟨hex, hey, hval⟩ := okR_nats hok2
      have HCn := Lib.hid (hex ▸ HC.out)
      have HEn := Lib.hid (hey ▸ HE.out)
      have HV2 := Lib.hid hval
      have HOK2 := Lib.hid hok2
      clear hex hey hval hok2
      have HOKK := Lib.hid (show (okR s xs ys && okR t us vs) = true by rw [HOK.out, HOK2.out]; rfl)
      have hk_a_0_2 := K_a_2.out.cell 0 _ rfl
      have hk_a_1_2 := K_a_2.out.cell 1 _ rfl
      have hk_a_2_2 := K_a_2.out.cell 2 _ rfl
      have hk_b_0_2 := K_b_2.out.cell 0 _ rfl
      have hk_b_1_2 := K_b_2.out.cell 1 _ rfl
      have hk_b_2_2 := K_b_2.out.cell 2 _ rfl
      go_wp2_with fail
      refine (l04Cmp_at s A n c (toN xs) B m d (toN ys) t C p q (toN us) E k l (toN vs) Q HQ.out _ (HAn.out.below HB_2.out (Nat.le_refl _)) (HBn.out.below HB_2.out (Nat.le_refl _)) HV.out (HCn.out.below HB_2.out (Nat.le_refl _)) (HEn.out.below HB_2.out (Nat.le_refl _)) HV2.out).mono ?_
      rintro e w5 ⟨rfl, hb⟩
      have K_a_3 := Lib.hid (K_a_2.out.after hb)
      have K_b_3 := Lib.hid (K_b_2.out.after hb)
      have K_res_3 := Lib.hid (K_res_2.out.after hb)
      have HB_3 := Lib.hid (HB_2.out.trans (hb.mono HB_2.out.size))
      clear hb
      clear hk_a_0_2
      clear hk_a_1_2
      clear hk_a_2_2
      clear hk_b_0_2
      clear hk_b_1_2
      clear hk_b_2_2
      by_cases hq : Q ≤ 0
      · have HP := Lib.hid (show mnP s xs ys t us vs = true by unfold mnP; rw [HQ.out]; simp; omega)
        have HLS := Lib.hid (((sl_left (xs := xs) (us := us) HOKK.out HP.out).1.symm).trans HRS.out)
        have HLN := Lib.hid (((sl_left (s := s) (t := t) (xs := xs) (us := us) HOKK.out HP.out).2.symm).trans HRN.out)
        have HLD := Lib.hid (((sl_left (s := s) (t := t) (xs := ys) (us := vs) HOKK.out HP.out).2.symm).trans HRD.out)
        have hk_a_0_3 := K_a_3.out.cell 0 _ rfl
        have hk_a_1_3 := K_a_3.out.cell 1 _ rfl
        have hk_a_2_3 := K_a_3.out.cell 2 _ rfl
        have hk_res_0_3 := K_res_3.out.cell 0 _ rfl
        have hk_res_0_3f := K_res_3.out.froz 0 _ rfl
        have hk_res_1_3 := K_res_3.out.cell 1 _ rfl
        have hk_res_1_3f := K_res_3.out.froz 1 _ rfl
        have hk_res_2_3 := K_res_3.out.cell 2 _ rfl
        have hk_res_2_3f := K_res_3.out.froz 2 _ rfl
        go_wp2_with fail
        refine (l04Copy_at s A n c xs B m d ys RS RN RD HLS.out HLN.out HLD.out HOK.out _ (HA.out.below HB_3.out (Nat.le_refl _)) (HB.out.below HB_3.out (Nat.le_refl _))).mono ?_
        rintro e w9 ⟨v9n, v9d, rfl, hon, hod, apn, apd, hb⟩
        obtain ⟨A9n, c9n, rfl⟩ := hon.shape
        have HO9n := Lib.hid hon
        obtain ⟨A9d, c9d, rfl⟩ := hod.shape
        have HO9d := Lib.hid hod
        have AP_O9n_O9d := Lib.hid apn
        have AP_O9d_O9n := Lib.hid apd
        clear hon hod apn apd
        have K_a_4 := Lib.hid (K_a_3.out.after hb)
        have K_b_4 := Lib.hid (K_b_3.out.after hb)
        have K_res_4 := Lib.hid (K_res_3.out.after hb)
        have HB_4 := Lib.hid (HB_3.out.trans (hb.mono HB_3.out.size))
        clear hb
        clear hk_a_0_3
        clear hk_a_1_3
        clear hk_a_2_3
        clear hk_res_0_3
        clear hk_res_0_3f
        clear hk_res_1_3
        clear hk_res_1_3f
        clear hk_res_2_3
        clear hk_res_2_3f
        have hk_res_0_4 := K_res_4.out.cell 0 _ rfl
        have hk_res_0_4f := K_res_4.out.froz 0 _ rfl
        have hk_res_1_4 := K_res_4.out.cell 1 _ rfl
        have hk_res_1_4f := K_res_4.out.froz 1 _ rfl
        have hk_res_2_4 := K_res_4.out.cell 2 _ rfl
        have hk_res_2_4f := K_res_4.out.froz 2 _ rfl
        go_wp2
        have hr0 := K_res_4.out.cell 0 _ rfl
        have hr1 := K_res_4.out.cell 1 _ rfl
        have hr2 := K_res_4.out.cell 2 _ rfl
        exact bodyPost_ret (v := .agg #[.bool RS, .slice A9n (nats RN).length c9n, .slice A9d (nats RD).length c9d]) (by simp [results, Try.results6, go_sem, hr0, hr1, hr2]) rfl (ownRR_close HB_4.out HO9n.out HO9d.out K_res_3.out.lt K_res_3.out.lt (by omega) AP_O9n_O9d.out AP_O9d_O9n.out)
      · have HP := Lib.hid (show mnP s xs ys t us vs = false by unfold mnP; rw [HQ.out]; simp; omega)
        have HLS := Lib.hid (((sl_right (xs := xs) (us := us) HOKK.out HP.out).1.symm).trans HRS.out)
        have HLN := Lib.hid (((sl_right (s := s) (t := t) (xs := xs) (us := us) HOKK.out HP.out).2.symm).trans HRN.out)
        have HLD := Lib.hid (((sl_right (s := s) (t := t) (xs := ys) (us := vs) HOKK.out HP.out).2.symm).trans HRD.out)
        have hk_b_0_3 := K_b_3.out.cell 0 _ rfl
        have hk_b_1_3 := K_b_3.out.cell 1 _ rfl
        have hk_b_2_3 := K_b_3.out.cell 2 _ rfl
        have hk_res_0_3 := K_res_3.out.cell 0 _ rfl
        have hk_res_0_3f := K_res_3.out.froz 0 _ rfl
        have hk_res_1_3 := K_res_3.out.cell 1 _ rfl
        have hk_res_1_3f := K_res_3.out.froz 1 _ rfl
        have hk_res_2_3 := K_res_3.out.cell 2 _ rfl
        have hk_res_2_3f := K_res_3.out.froz 2 _ rfl
        go_wp2_with fail
        refine (l04Copy_at t C p q us E k l vs RS RN RD HLS.out HLN.out HLD.out HOK2.out _ (HC.out.below HB_3.out (Nat.le_refl _)) (HE.out.below HB_3.out (Nat.le_refl _))).mono ?_
        rintro e w9 ⟨v9n, v9d, rfl, hon, hod, apn, apd, hb⟩
        obtain ⟨A9n, c9n, rfl⟩ := hon.shape
        have HO9n := Lib.hid hon
        obtain ⟨A9d, c9d, rfl⟩ := hod.shape
        have HO9d := Lib.hid hod
        have AP_O9n_O9d := Lib.hid apn
        have AP_O9d_O9n := Lib.hid apd
        clear hon hod apn apd
        have K_a_4 := Lib.hid (K_a_3.out.after hb)
        have K_b_4 := Lib.hid (K_b_3.out.after hb)
        have K_res_4 := Lib.hid (K_res_3.out.after hb)
        have HB_4 := Lib.hid (HB_3.out.trans (hb.mono HB_3.out.size))
        clear hb
        clear hk_b_0_3
        clear hk_b_1_3
        clear hk_b_2_3
        clear hk_res_0_3
        clear hk_res_0_3f
        clear hk_res_1_3
        clear hk_res_1_3f
        clear hk_res_2_3
        clear hk_res_2_3f
        have hk_res_0_4 := K_res_4.out.cell 0 _ rfl
        have hk_res_0_4f := K_res_4.out.froz 0 _ rfl
        have hk_res_1_4 := K_res_4.out.cell 1 _ rfl
        have hk_res_1_4f := K_res_4.out.froz 1 _ rfl
        have hk_res_2_4 := K_res_4.out.cell 2 _ rfl
        have hk_res_2_4f := K_res_4.out.froz 2 _ rfl
        go_wp2
        have hr0 := K_res_4.out.cell 0 _ rfl
        have hr1 := K_res_4.out.cell 1 _ rfl
        have hr2 := K_res_4.out.cell 2 _ rfl
        exact bodyPost_ret (v := .agg #[.bool RS, .slice A9n (nats RN).length c9n, .slice A9d (nats RD).length c9d]) (by simp [results, Try.results6, go_sem, hr0, hr1, hr2]) rfl (ownRR_close HB_4.out HO9n.out HO9d.out K_res_3.out.lt K_res_3.out.lt (by omega) AP_O9n_O9d.out AP_O9d_O9n.out)
    · rw [Bool.not_eq_true] at hok2
      rw [hok2]
      obtain rfl : RS = false := by rw [← HRS.out]; exact (sl_no (xs := xs) (us := us) (by rw [hok2, Bool.and_false])).1
      obtain rfl : RN = [] := by rw [← HRN.out]; exact (sl_no (s := s) (t := t) (by rw [hok2, Bool.and_false])).2
      obtain rfl : RD = [] := by rw [← HRD.out]; exact (sl_no (s := s) (t := t) (by rw [hok2, Bool.and_false])).2
      have hk_res_0_2 := K_res_2.out.cell 0 _ rfl
      have hk_res_0_2f := K_res_2.out.froz 0 _ rfl
      have hk_res_1_2 := K_res_2.out.cell 1 _ rfl
      have hk_res_1_2f := K_res_2.out.froz 1 _ rfl
      have hk_res_2_2 := K_res_2.out.cell 2 _ rfl
      have hk_res_2_2f := K_res_2.out.froz 2 _ rfl
      go_wp2
      have hr0 := K_res_2.out.cell 0 _ rfl
      have hr1 := K_res_2.out.cell 1 _ rfl
      have hr2 := K_res_2.out.cell 2 _ rfl
      refine bodyPost_ret (v := .agg #[.bool false, .slice none 0 0, .slice none 0 0]) (by simp [results, Try.results6, go_sem, hr0, hr1, hr2]) rfl ?_
      exact ownRR_close HB_2.out (OwnV.nil _ (w.heap.size + 1 + 1 + 1) _) (OwnV.nil _ (w.heap.size + 1 + 1 + 1) _) (Nat.lt_succ_self _) (Nat.lt_succ_self _) (by omega) (.inl rfl) (.inl rfl)
  · rw [Bool.not_eq_true] at hok
    rw [hok]
    obtain rfl : RS = false := by rw [← HRS.out]; exact (sl_no (xs := xs) (us := us) (by rw [hok, Bool.false_and])).1
    obtain rfl : RN = [] := by rw [← HRN.out]; exact (sl_no (s := s) (t := t) (by rw [hok, Bool.false_and])).2
    obtain rfl : RD = [] := by rw [← HRD.out]; exact (sl_no (s := s) (t := t) (by rw [hok, Bool.false_and])).2
    have hk_res_0_1 := K_res_1.out.cell 0 _ rfl
    have hk_res_0_1f := K_res_1.out.froz 0 _ rfl
    have hk_res_1_1 := K_res_1.out.cell 1 _ rfl
    have hk_res_1_1f := K_res_1.out.froz 1 _ rfl
    have hk_res_2_1 := K_res_1.out.cell 2 _ rfl
    have hk_res_2_1f := K_res_1.out.froz 2 _ rfl
    go_wp2
    have hr0 := K_res_1.out.cell 0 _ rfl
    have hr1 := K_res_1.out.cell 1 _ rfl
    have hr2 := K_res_1.out.cell 2 _ rfl
    refine bodyPost_ret (v := .agg #[.bool false, .slice none 0 0, .slice none 0 0]) (by simp [results, Try.results6, go_sem, hr0, hr1, hr2]) rfl ?_
    exact ownRR_close HB_1.out (OwnV.nil _ (w.heap.size + 1 + 1 + 1) _) (OwnV.nil _ (w.heap.size + 1 + 1 + 1) _) (Nat.lt_succ_self _) (Nat.lt_succ_self _) (by omega) (.inl rfl) (.inl rfl)
set_option maxRecDepth 100000 in
set_option maxHeartbeats 4000000 in
theorem ratMin_impl (s : Bool) (A : Option Addr) (n c : Nat) (xs : List Int) (B : Option Addr) (m d : Nat) (ys : List Int) (t : Bool) (C : Option Addr) (p q : Nat) (us : List Int) (E : Option Addr) (k l : Nat) (vs : List Int) (w : World) (hA : Arg w A n c (ints xs)) (hB : Arg w B m d (ints ys)) (hC : Arg w C p q (ints us)) (hE : Arg w E k l (ints vs)) :
    Calls Try.prog 8 #[.agg #[.bool s, .slice A n c, .slice B m d], .agg #[.bool t, .slice C p q, .slice E k l]] w (OwnRR 3 (mnS s xs ys t us vs) (nats (mnN s xs ys t us vs)) (nats (mnD s xs ys t us vs)) w) := by
  obtain ⟨RS, hRS⟩ : ∃ y9, mnS s xs ys t us vs = y9 := ⟨_, rfl⟩
  obtain ⟨RN, hRN⟩ : ∃ y9, mnN s xs ys t us vs = y9 := ⟨_, rfl⟩
  obtain ⟨RD, hRD⟩ : ∃ y9, mnD s xs ys t us vs = y9 := ⟨_, rfl⟩
  rw [hRS, hRN, hRD]
  have HRS := Lib.hid hRS
  have HRN := Lib.hid hRN
  have HRD := Lib.hid hRD
  clear hRS hRN hRD
  obtain ⟨Q, hQ⟩ : ∃ y9, cmpZ (zOf t us * (val (toN ys) : Int)) (zOf s xs * (val (toN vs) : Int)) = y9 := ⟨_, rfl⟩
  have HQ := Lib.hid hQ
  have HA := Lib.hid hA
  have HB := Lib.hid hB
  have HC := Lib.hid hC
  have HE := Lib.hid hE
  clear hQ hA hB hC hE
  go_enter Try.func8, Try.ntmps8
  have HB_0 := Lib.hid ((((Below.refl w.heap.size w).alloc (Nat.le_refl _) (.cells #[.bool s, .slice A n c, .slice B m d] 30)).alloc (by simp) (.cells #[.bool t, .slice C p q, .slice E k l] 30)).alloc (by simp; omega) (.cells #[.bool false, .slice none 0 0, .slice none 0 0] 30))
  have K_a_0 := Lib.hid (((HeldL.new_at w (w.heap.size) [.bool s, .slice A n c, .slice B m d] 30 (by first | rfl | simp)).alloc (.cells #[.bool t, .slice C p q, .slice E k l] 30)).alloc (.cells #[.bool false, .slice none 0 0, .slice none 0 0] 30))
  have K_b_0 := Lib.hid ((HeldL.new_at (w.alloc (.cells #[.bool s, .slice A n c, .slice B m d] 30)) (w.heap.size + 1) [.bool t, .slice C p q, .slice E k l] 30 (by first | rfl | simp)).alloc (.cells #[.bool false, .slice none 0 0, .slice none 0 0] 30))
  have K_res_0 := Lib.hid (HeldL.new_at ((w.alloc (.cells #[.bool s, .slice A n c, .slice B m d] 30)).alloc (.cells #[.bool t, .slice C p q, .slice E k l] 30)) (w.heap.size + 1 + 1) [.bool false, .slice none 0 0, .slice none 0 0] 30 (by first | rfl | simp))
  have hne_a_b : w.heap.size ≠ w.heap.size + 1 := by omega
  have hne_a_res : w.heap.size ≠ w.heap.size + 1 + 1 := by omega
  have hne_b_a : w.heap.size + 1 ≠ w.heap.size := by omega
  have hne_b_res : w.heap.size + 1 ≠ w.heap.size + 1 + 1 := by omega
  have hne_res_a : w.heap.size + 1 + 1 ≠ w.heap.size := by omega
  have hne_res_b : w.heap.size + 1 + 1 ≠ w.heap.size + 1 := by omega
  go_wp2_with fail
  refine (areValid_any s A n c xs B m d ys t C p q us E k l vs _ (HA.out.below HB_0.out (Nat.le_refl _)) (HB.out.below HB_0.out (Nat.le_refl _)) (HC.out.below HB_0.out (Nat.le_refl _)) (HE.out.below HB_0.out (Nat.le_refl _))).mono ?_
  rintro e w1 ⟨rfl, hb⟩
  have K_a_1 := Lib.hid (K_a_0.out.after hb)
  have K_b_1 := Lib.hid (K_b_0.out.after hb)
  have K_res_1 := Lib.hid (K_res_0.out.after hb)
  have HB_1 := Lib.hid (HB_0.out.trans (hb.mono HB_0.out.size))
  clear hb
  by_cases hok : (okR s xs ys && okR t us vs) = true
  · rw [hok]
    have HOK := Lib.hid (Bool.and_eq_true_iff.mp hok).1
    have HOK2 := Lib.hid (Bool.and_eq_true_iff.mp hok).2
    clear hok
    have HOKK := Lib.hid (show (okR s xs ys && okR t us vs) = true by rw [HOK.out, HOK2.out]; rfl)
    have hk_a_0_1 := K_a_1.out.cell 0 _ rfl
    have hk_a_1_1 := K_a_1.out.cell 1 _ rfl
    have hk_a_2_1 := K_a_1.out.cell 2 _ rfl
    have hk_b_0_1 := K_b_1.out.cell 0 _ rfl
    have hk_b_1_1 := K_b_1.out.cell 1 _ rfl
    have hk_b_2_1 := K_b_1.out.cell 2 _ rfl
    go_wp2_with fail
    refine (compareR_at t C p q us E k l vs s A n c xs B m d ys Q HQ.out HOK2.out HOK.out _ (HC.out.below HB_1.out (Nat.le_refl _)) (HE.out.below HB_1.out (Nat.le_refl _)) (HA.out.below HB_1.out (Nat.le_refl _)) (HB.out.below HB_1.out (Nat.le_refl _))).mono ?_
    rintro e w5 ⟨rfl, hb⟩
    have K_a_2 := Lib.hid (K_a_1.out.after hb)
    have K_b_2 := Lib.hid (K_b_1.out.after hb)
    have K_res_2 := Lib.hid (K_res_1.out.after hb)
    have HB_2 := Lib.hid (HB_1.out.trans (hb.mono HB_1.out.size))
    clear hb
    clear hk_a_0_1
    clear hk_a_1_1
    clear hk_a_2_1
    clear hk_b_0_1
    clear hk_b_1_1
    clear hk_b_2_1
    by_cases hq : Q < 0
    · have HP := Lib.hid (show mnP s xs ys t us vs = false by unfold mnP; rw [cmpZ_swap, HQ.out]; simp; omega)
      have HLS := Lib.hid (((sl_right (xs := xs) (us := us) HOKK.out HP.out).1.symm).trans HRS.out)
      have HLN := Lib.hid (((sl_right (s := s) (t := t) (xs := xs) (us := us) HOKK.out HP.out).2.symm).trans HRN.out)
      have HLD := Lib.hid (((sl_right (s := s) (t := t) (xs := ys) (us := vs) HOKK.out HP.out).2.symm).trans HRD.out)
      have hk_b_0_2 := K_b_2.out.cell 0 _ rfl
      have hk_b_1_2 := K_b_2.out.cell 1 _ rfl
      have hk_b_2_2 := K_b_2.out.cell 2 _ rfl
      have hk_res_0_2 := K_res_2.out.cell 0 _ rfl
      have hk_res_0_2f := K_res_2.out.froz 0 _ rfl
      have hk_res_1_2 := K_res_2.out.cell 1 _ rfl
      have hk_res_1_2f := K_res_2.out.froz 1 _ rfl
      have hk_res_2_2 := K_res_2.out.cell 2 _ rfl
      have hk_res_2_2f := K_res_2.out.froz 2 _ rfl
      go_wp2_with fail
      refine (copiedR_at t C p q us E k l vs RS RN RD HLS.out HLN.out HLD.out HOK2.out _ (HC.out.below HB_2.out (Nat.le_refl _)) (HE.out.below HB_2.out (Nat.le_refl _))).mono ?_
      rintro e w9 ⟨v9n, v9d, rfl, hon, hod, apn, apd, hb⟩
      obtain ⟨A9n, c9n, rfl⟩ := hon.shape
      have HO9n := Lib.hid hon
      obtain ⟨A9d, c9d, rfl⟩ := hod.shape
      have HO9d := Lib.hid hod
      have AP_O9n_O9d := Lib.hid apn
      have AP_O9d_O9n := Lib.hid apd
      clear hon hod apn apd
      have K_a_3 := Lib.hid (K_a_2.out.after hb)
      have K_b_3 := Lib.hid (K_b_2.out.after hb)
      have K_res_3 := Lib.hid (K_res_2.out.after hb)
      have HB_3 := Lib.hid (HB_2.out.trans (hb.mono HB_2.out.size))
      clear hb
      clear hk_b_0_2
      clear hk_b_1_2
      clear hk_b_2_2
      clear hk_res_0_2
      clear hk_res_0_2f
      clear hk_res_1_2
      clear hk_res_1_2f
      clear hk_res_2_2
      clear hk_res_2_2f
      have hk_res_0_3 := K_res_3.out.cell 0 _ rfl
      have hk_res_0_3f := K_res_3.out.froz 0 _ rfl
      have hk_res_1_3 := K_res_3.out.cell 1 _ rfl
      have hk_res_1_3f := K_res_3.out.froz 1 _ rfl
      have hk_res_2_3 := K_res_3.out.cell 2 _ rfl
      have hk_res_2_3f := K_res_3.out.froz 2 _ rfl
      go_wp2
      have hr0 := K_res_3.out.cell 0 _ rfl
      have hr1 := K_res_3.out.cell 1 _ rfl
      have hr2 := K_res_3.out.cell 2 _ rfl
      exact bodyPost_ret (v := .agg #[.bool RS, .slice A9n (nats RN).length c9n, .slice A9d (nats RD).length c9d]) (by simp [results, Try.results8, go_sem, hr0, hr1, hr2]) rfl (ownRR_close HB_3.out HO9n.out HO9d.out K_res_2.out.lt K_res_2.out.lt (by omega) AP_O9n_O9d.out AP_O9d_O9n.out)
    · have HP := Lib.hid (show mnP s xs ys t us vs = true by unfold mnP; rw [cmpZ_swap, HQ.out]; simp; omega)
      have HLS := Lib.hid (((sl_left (xs := xs) (us := us) HOKK.out HP.out).1.symm).trans HRS.out)
      have HLN := Lib.hid (((sl_left (s := s) (t := t) (xs := xs) (us := us) HOKK.out HP.out).2.symm).trans HRN.out)
      have HLD := Lib.hid (((sl_left (s := s) (t := t) (xs := ys) (us := vs) HOKK.out HP.out).2.symm).trans HRD.out)
      have hk_a_0_2 := K_a_2.out.cell 0 _ rfl
      have hk_a_1_2 := K_a_2.out.cell 1 _ rfl
      have hk_a_2_2 := K_a_2.out.cell 2 _ rfl
      have hk_res_0_2 := K_res_2.out.cell 0 _ rfl
      have hk_res_0_2f := K_res_2.out.froz 0 _ rfl
      have hk_res_1_2 := K_res_2.out.cell 1 _ rfl
      have hk_res_1_2f := K_res_2.out.froz 1 _ rfl
      have hk_res_2_2 := K_res_2.out.cell 2 _ rfl
      have hk_res_2_2f := K_res_2.out.froz 2 _ rfl
      go_wp2_with fail
      refine (copiedR_at s A n c xs B m d ys RS RN RD HLS.out HLN.out HLD.out HOK.out _ (HA.out.below HB_2.out (Nat.le_refl _)) (HB.out.below HB_2.out (Nat.le_refl _))).mono ?_
      rintro e w9 ⟨v9n, v9d, rfl, hon, hod, apn, apd, hb⟩
      obtain ⟨A9n, c9n, rfl⟩ := hon.shape
      have HO9n := Lib.hid hon
      obtain ⟨A9d, c9d, rfl⟩ := hod.shape
      have HO9d := Lib.hid hod
      have AP_O9n_O9d := Lib.hid apn
      have AP_O9d_O9n := Lib.hid apd
      clear hon hod apn apd
      have K_a_3 := Lib.hid (K_a_2.out.after hb)
      have K_b_3 := Lib.hid (K_b_2.out.after hb)
      have K_res_3 := Lib.hid (K_res_2.out.after hb)
      have HB_3 := Lib.hid (HB_2.out.trans (hb.mono HB_2.out.size))
      clear hb
      clear hk_a_0_2
      clear hk_a_1_2
      clear hk_a_2_2
      clear hk_res_0_2
      clear hk_res_0_2f
      clear hk_res_1_2
      clear hk_res_1_2f
      clear hk_res_2_2
      clear hk_res_2_2f
      have hk_res_0_3 := K_res_3.out.cell 0 _ rfl
      have hk_res_0_3f := K_res_3.out.froz 0 _ rfl
      have hk_res_1_3 := K_res_3.out.cell 1 _ rfl
      have hk_res_1_3f := K_res_3.out.froz 1 _ rfl
      have hk_res_2_3 := K_res_3.out.cell 2 _ rfl
      have hk_res_2_3f := K_res_3.out.froz 2 _ rfl
      go_wp2
      have hr0 := K_res_3.out.cell 0 _ rfl
      have hr1 := K_res_3.out.cell 1 _ rfl
      have hr2 := K_res_3.out.cell 2 _ rfl
      exact bodyPost_ret (v := .agg #[.bool RS, .slice A9n (nats RN).length c9n, .slice A9d (nats RD).length c9d]) (by simp [results, Try.results8, go_sem, hr0, hr1, hr2]) rfl (ownRR_close HB_3.out HO9n.out HO9d.out K_res_2.out.lt K_res_2.out.lt (by omega) AP_O9n_O9d.out AP_O9d_O9n.out)
  · rw [Bool.not_eq_true] at hok
    rw [hok]
    obtain rfl : RS = false := by rw [← HRS.out]; exact (sl_no (xs := xs) (us := us) (hok)).1
    obtain rfl : RN = [] := by rw [← HRN.out]; exact (sl_no (s := s) (t := t) (hok)).2
    obtain rfl : RD = [] := by rw [← HRD.out]; exact (sl_no (s := s) (t := t) (hok)).2
    have hk_res_0_1 := K_res_1.out.cell 0 _ rfl
    have hk_res_0_1f := K_res_1.out.froz 0 _ rfl
    have hk_res_1_1 := K_res_1.out.cell 1 _ rfl
    have hk_res_1_1f := K_res_1.out.froz 1 _ rfl
    have hk_res_2_1 := K_res_1.out.cell 2 _ rfl
    have hk_res_2_1f := K_res_1.out.froz 2 _ rfl
    go_wp2
    have hr0 := K_res_1.out.cell 0 _ rfl
    have hr1 := K_res_1.out.cell 1 _ rfl
    have hr2 := K_res_1.out.cell 2 _ rfl
    refine bodyPost_ret (v := .agg #[.bool false, .slice none 0 0, .slice none 0 0]) (by simp [results, Try.results8, go_sem, hr0, hr1, hr2]) rfl ?_
    exact ownRR_close HB_1.out (OwnV.nil _ (w.heap.size + 1 + 1 + 1) _) (OwnV.nil _ (w.heap.size + 1 + 1 + 1) _) (Nat.lt_succ_self _) (Nat.lt_succ_self _) (by omega) (.inl rfl) (.inl rfl)
set_option maxRecDepth 100000 in
set_option maxHeartbeats 4000000 in
theorem ratMax_spec (s : Bool) (A : Option Addr) (n c : Nat) (xs : List Int) (B : Option Addr) (m d : Nat) (ys : List Int) (t : Bool) (C : Option Addr) (p q : Nat) (us : List Int) (E : Option Addr) (k l : Nat) (vs : List Int) (w : World) (hA : Arg w A n c (ints xs)) (hB : Arg w B m d (ints ys)) (hC : Arg w C p q (ints us)) (hE : Arg w E k l (ints vs)) :
    Calls Try.prog 12 #[.agg #[.bool s, .slice A n c, .slice B m d], .agg #[.bool t, .slice C p q, .slice E k l]] w (OwnRR 3 (mxS s xs ys t us vs) (nats (mxN s xs ys t us vs)) (nats (mxD s xs ys t us vs)) w) := by
  obtain ⟨RS, hRS⟩ : ∃ y9, mxS s xs ys t us vs = y9 := ⟨_, rfl⟩
  obtain ⟨RN, hRN⟩ : ∃ y9, mxN s xs ys t us vs = y9 := ⟨_, rfl⟩
  obtain ⟨RD, hRD⟩ : ∃ y9, mxD s xs ys t us vs = y9 := ⟨_, rfl⟩
  rw [hRS, hRN, hRD]
  have HRS := Lib.hid hRS
  have HRN := Lib.hid hRN
  have HRD := Lib.hid hRD
  clear hRS hRN hRD
  obtain ⟨Q, hQ⟩ : ∃ y9, cmpZ (zOf s xs * (val (toN vs) : Int)) (zOf t us * (val (toN ys) : Int)) = y9 := ⟨_, rfl⟩
  have HQ := Lib.hid hQ
  have HA := Lib.hid hA
  have HB := Lib.hid hB
  have HC := Lib.hid hC
  have HE := Lib.hid hE
  clear hQ hA hB hC hE
  go_enter Try.func12, Try.ntmps12
  have HB_0 := Lib.hid ((((Below.refl w.heap.size w).alloc (Nat.le_refl _) (.cells #[.bool s, .slice A n c, .slice B m d] 30)).alloc (by simp) (.cells #[.bool t, .slice C p q, .slice E k l] 30)).alloc (by simp; omega) (.cells #[.bool false, .slice none 0 0, .slice none 0 0] 30))
  have K_a_0 := Lib.hid (((HeldL.new_at w (w.heap.size) [.bool s, .slice A n c, .slice B m d] 30 (by first | rfl | simp)).alloc (.cells #[.bool t, .slice C p q, .slice E k l] 30)).alloc (.cells #[.bool false, .slice none 0 0, .slice none 0 0] 30))
  have K_b_0 := Lib.hid ((HeldL.new_at (w.alloc (.cells #[.bool s, .slice A n c, .slice B m d] 30)) (w.heap.size + 1) [.bool t, .slice C p q, .slice E k l] 30 (by first | rfl | simp)).alloc (.cells #[.bool false, .slice none 0 0, .slice none 0 0] 30))
  have K_res_0 := Lib.hid (HeldL.new_at ((w.alloc (.cells #[.bool s, .slice A n c, .slice B m d] 30)).alloc (.cells #[.bool t, .slice C p q, .slice E k l] 30)) (w.heap.size + 1 + 1) [.bool false, .slice none 0 0, .slice none 0 0] 30 (by first | rfl | simp))
  have hne_a_b : w.heap.size ≠ w.heap.size + 1 := by omega
  have hne_a_res : w.heap.size ≠ w.heap.size + 1 + 1 := by omega
  have hne_b_a : w.heap.size + 1 ≠ w.heap.size := by omega
  have hne_b_res : w.heap.size + 1 ≠ w.heap.size + 1 + 1 := by omega
  have hne_res_a : w.heap.size + 1 + 1 ≠ w.heap.size := by omega
  have hne_res_b : w.heap.size + 1 + 1 ≠ w.heap.size + 1 := by omega
  go_wp2_with fail
  refine (ratOk_spec s A n c xs B m d ys _ (HA.out.below HB_0.out (Nat.le_refl _)) (HB.out.below HB_0.out (Nat.le_refl _))).mono ?_
  rintro e w1 ⟨rfl, hb⟩
  have K_a_1 := Lib.hid (K_a_0.out.after hb)
  have K_b_1 := Lib.hid (K_b_0.out.after hb)
  have K_res_1 := Lib.hid (K_res_0.out.after hb)
  have HB_1 := Lib.hid (HB_0.out.trans (hb.mono HB_0.out.size))
  clear hb
  by_cases hok : okR s xs ys = true
  · rw [hok]
    have hk_b_0_1 := K_b_1.out.cell 0 _ rfl
    have hk_b_1_1 := K_b_1.out.cell 1 _ rfl
    have hk_b_2_1 := K_b_1.out.cell 2 _ rfl
    go_wp2_with fail
    refine (ratOk_spec t C p q us E k l vs _ (HC.out.below HB_1.out (Nat.le_refl _)) (HE.out.below HB_1.out (Nat.le_refl _))).mono ?_
    rintro e w2 ⟨rfl, hb⟩
    have K_a_2 := Lib.hid (K_a_1.out.after hb)
    have K_b_2 := Lib.hid (K_b_1.out.after hb)
    have K_res_2 := Lib.hid (K_res_1.out.after hb)
    have HB_2 := Lib.hid (HB_1.out.trans (hb.mono HB_1.out.size))
    clear hb
    clear hk_b_0_1
    clear hk_b_1_1
    clear hk_b_2_1
    by_cases hok2 : okR t us vs = true
    · rw [hok2]
      obtain ⟨hex, hey, hval⟩ := okR_nats hok
      have HAn := Lib.hid (hex ▸ HA.out)
      have HBn := Lib.hid (hey ▸ HB.out)
      have HV := Lib.hid hval
      have HOK := Lib.hid hok
      clear hex hey hval hok
      obtain ⟨hex, hey, hval⟩ := okR_nats hok2
      have HCn := Lib.hid (hex ▸ HC.out)
      have HEn := Lib.hid (hey ▸ HE.out)
      have HV2 := Lib.hid hval
      have HOK2 := Lib.hid hok2
      clear hex hey hval hok2
      have HOKK := Lib.hid (show (okR s xs ys && okR t us vs) = true by rw [HOK.out, HOK2.out]; rfl)
      have hk_a_0_2 := K_a_2.out.cell 0 _ rfl
      have hk_a_1_2 := K_a_2.out.cell 1 _ rfl
      have hk_a_2_2 := K_a_2.out.cell 2 _ rfl
      have hk_b_0_2 := K_b_2.out.cell 0 _ rfl
      have hk_b_1_2 := K_b_2.out.cell 1 _ rfl
      have hk_b_2_2 := K_b_2.out.cell 2 _ rfl
      go_wp2_with fail
      refine (l04Cmp_at s A n c (toN xs) B m d (toN ys) t C p q (toN us) E k l (toN vs) Q HQ.out _ (HAn.out.below HB_2.out (Nat.le_refl _)) (HBn.out.below HB_2.out (Nat.le_refl _)) HV.out (HCn.out.below HB_2.out (Nat.le_refl _)) (HEn.out.below HB_2.out (Nat.le_refl _)) HV2.out).mono ?_
      rintro e w5 ⟨rfl, hb⟩
      have K_a_3 := Lib.hid (K_a_2.out.after hb)
      have K_b_3 := Lib.hid (K_b_2.out.after hb)
      have K_res_3 := Lib.hid (K_res_2.out.after hb)
      have HB_3 := Lib.hid (HB_2.out.trans (hb.mono HB_2.out.size))
      clear hb
      clear hk_a_0_2
      clear hk_a_1_2
      clear hk_a_2_2
      clear hk_b_0_2
      clear hk_b_1_2
      clear hk_b_2_2
      by_cases hq : 0 ≤ Q
      · have HP := Lib.hid (show mxP s xs ys t us vs = true by unfold mxP; rw [HQ.out]; simp; omega)
        have HLS := Lib.hid (((sl_left (xs := xs) (us := us) HOKK.out HP.out).1.symm).trans HRS.out)
        have HLN := Lib.hid (((sl_left (s := s) (t := t) (xs := xs) (us := us) HOKK.out HP.out).2.symm).trans HRN.out)
        have HLD := Lib.hid (((sl_left (s := s) (t := t) (xs := ys) (us := vs) HOKK.out HP.out).2.symm).trans HRD.out)
        have hk_a_0_3 := K_a_3.out.cell 0 _ rfl
        have hk_a_1_3 := K_a_3.out.cell 1 _ rfl
        have hk_a_2_3 := K_a_3.out.cell 2 _ rfl
        have hk_res_0_3 := K_res_3.out.cell 0 _ rfl
        have hk_res_0_3f := K_res_3.out.froz 0 _ rfl
        have hk_res_1_3 := K_res_3.out.cell 1 _ rfl
        have hk_res_1_3f := K_res_3.out.froz 1 _ rfl
        have hk_res_2_3 := K_res_3.out.cell 2 _ rfl
        have hk_res_2_3f := K_res_3.out.froz 2 _ rfl
        go_wp2_with fail
        refine (l04Copy_at s A n c xs B m d ys RS RN RD HLS.out HLN.out HLD.out HOK.out _ (HA.out.below HB_3.out (Nat.le_refl _)) (HB.out.below HB_3.out (Nat.le_refl _))).mono ?_
        rintro e w9 ⟨v9n, v9d, rfl, hon, hod, apn, apd, hb⟩
        obtain ⟨A9n, c9n, rfl⟩ := hon.shape
        have HO9n := Lib.hid hon
        obtain ⟨A9d, c9d, rfl⟩ := hod.shape
        have HO9d := Lib.hid hod
        have AP_O9n_O9d := Lib.hid apn
        have AP_O9d_O9n := Lib.hid apd
        clear hon hod apn apd
        have K_a_4 := Lib.hid (K_a_3.out.after hb)
        have K_b_4 := Lib.hid (K_b_3.out.after hb)
        have K_res_4 := Lib.hid (K_res_3.out.after hb)
        have HB_4 := Lib.hid (HB_3.out.trans (hb.mono HB_3.out.size))
        clear hb
        clear hk_a_0_3
        clear hk_a_1_3
        clear hk_a_2_3
        clear hk_res_0_3
        clear hk_res_0_3f
        clear hk_res_1_3
        clear hk_res_1_3f
        clear hk_res_2_3
        clear hk_res_2_3f
        have hk_res_0_4 := K_res_4.out.cell 0 _ rfl
        have hk_res_0_4f := K_res_4.out.froz 0 _ rfl
        have hk_res_1_4 := K_res_4.out.cell 1 _ rfl
        have hk_res_1_4f := K_res_4.out.froz 1 _ rfl
        have hk_res_2_4 := K_res_4.out.cell 2 _ rfl
        have hk_res_2_4f := K_res_4.out.froz 2 _ rfl
        go_wp2
        have hr0 := K_res_4.out.cell 0 _ rfl
        have hr1 := K_res_4.out.cell 1 _ rfl
        have hr2 := K_res_4.out.cell 2 _ rfl
        exact bodyPost_ret (v := .agg #[.bool RS, .slice A9n (nats RN).length c9n, .slice A9d (nats RD).length c9d]) (by simp [results, Try.results12, go_sem, hr0, hr1, hr2]) rfl (ownRR_close HB_4.out HO9n.out HO9d.out K_res_3.out.lt K_res_3.out.lt (by omega) AP_O9n_O9d.out AP_O9d_O9n.out)
      · have HP := Lib.hid (show mxP s xs ys t us vs = false by unfold mxP; rw [HQ.out]; simp; omega)
        have HLS := Lib.hid (((sl_right (xs := xs) (us := us) HOKK.out HP.out).1.symm).trans HRS.out)
        have HLN := Lib.hid (((sl_right (s := s) (t := t) (xs := xs) (us := us) HOKK.out HP.out).2.symm).trans HRN.out)
        have HLD := Lib.hid (((sl_right (s := s) (t := t) (xs := ys) (us := vs) HOKK.out HP.out).2.symm).trans HRD.out)
        have hk_b_0_3 := K_b_3.out.cell 0 _ rfl
        have hk_b_1_3 := K_b_3.out.cell 1 _ rfl
        have hk_b_2_3 := K_b_3.out.cell 2 _ rfl
        have hk_res_0_3 := K_res_3.out.cell 0 _ rfl
        have hk_res_0_3f := K_res_3.out.froz 0 _ rfl
        have hk_res_1_3 := K_res_3.out.cell 1 _ rfl
        have hk_res_1_3f := K_res_3.out.froz 1 _ rfl
        have hk_res_2_3 := K_res_3.out.cell 2 _ rfl
        have hk_res_2_3f := K_res_3.out.froz 2 _ rfl
        go_wp2_with fail
        refine (l04Copy_at t C p q us E k l vs RS RN RD HLS.out HLN.out HLD.out HOK2.out _ (HC.out.below HB_3.out (Nat.le_refl _)) (HE.out.below HB_3.out (Nat.le_refl _))).mono ?_
        rintro e w9 ⟨v9n, v9d, rfl, hon, hod, apn, apd, hb⟩
        obtain ⟨A9n, c9n, rfl⟩ := hon.shape
        have HO9n := Lib.hid hon
        obtain ⟨A9d, c9d, rfl⟩ := hod.shape
        have HO9d := Lib.hid hod
        have AP_O9n_O9d := Lib.hid apn
        have AP_O9d_O9n := Lib.hid apd
        clear hon hod apn apd
        have K_a_4 := Lib.hid (K_a_3.out.after hb)
        have K_b_4 := Lib.hid (K_b_3.out.after hb)
        have K_res_4 := Lib.hid (K_res_3.out.after hb)
        have HB_4 := Lib.hid (HB_3.out.trans (hb.mono HB_3.out.size))
        clear hb
        clear hk_b_0_3
        clear hk_b_1_3
        clear hk_b_2_3
        clear hk_res_0_3
        clear hk_res_0_3f
        clear hk_res_1_3
        clear hk_res_1_3f
        clear hk_res_2_3
        clear hk_res_2_3f
        have hk_res_0_4 := K_res_4.out.cell 0 _ rfl
        have hk_res_0_4f := K_res_4.out.froz 0 _ rfl
        have hk_res_1_4 := K_res_4.out.cell 1 _ rfl
        have hk_res_1_4f := K_res_4.out.froz 1 _ rfl
        have hk_res_2_4 := K_res_4.out.cell 2 _ rfl
        have hk_res_2_4f := K_res_4.out.froz 2 _ rfl
        go_wp2
        have hr0 := K_res_4.out.cell 0 _ rfl
        have hr1 := K_res_4.out.cell 1 _ rfl
        have hr2 := K_res_4.out.cell 2 _ rfl
        exact bodyPost_ret (v := .agg #[.bool RS, .slice A9n (nats RN).length c9n, .slice A9d (nats RD).length c9d]) (by simp [results, Try.results12, go_sem, hr0, hr1, hr2]) rfl (ownRR_close HB_4.out HO9n.out HO9d.out K_res_3.out.lt K_res_3.out.lt (by omega) AP_O9n_O9d.out AP_O9d_O9n.out)
    · rw [Bool.not_eq_true] at hok2
      rw [hok2]
      obtain rfl : RS = false := by rw [← HRS.out]; exact (sl_no (xs := xs) (us := us) (by rw [hok2, Bool.and_false])).1
      obtain rfl : RN = [] := by rw [← HRN.out]; exact (sl_no (s := s) (t := t) (by rw [hok2, Bool.and_false])).2
      obtain rfl : RD = [] := by rw [← HRD.out]; exact (sl_no (s := s) (t := t) (by rw [hok2, Bool.and_false])).2
      have hk_res_0_2 := K_res_2.out.cell 0 _ rfl
      have hk_res_0_2f := K_res_2.out.froz 0 _ rfl
      have hk_res_1_2 := K_res_2.out.cell 1 _ rfl
      have hk_res_1_2f := K_res_2.out.froz 1 _ rfl
      have hk_res_2_2 := K_res_2.out.cell 2 _ rfl
      have hk_res_2_2f := K_res_2.out.froz 2 _ rfl
      go_wp2
      have hr0 := K_res_2.out.cell 0 _ rfl
      have hr1 := K_res_2.out.cell 1 _ rfl
      have hr2 := K_res_2.out.cell 2 _ rfl
      refine bodyPost_ret (v := .agg #[.bool false, .slice none 0 0, .slice none 0 0]) (by simp [results, Try.results12, go_sem, hr0, hr1, hr2]) rfl ?_
      exact ownRR_close HB_2.out (OwnV.nil _ (w.heap.size + 1 + 1 + 1) _) (OwnV.nil _ (w.heap.size + 1 + 1 + 1) _) (Nat.lt_succ_self _) (Nat.lt_succ_self _) (by omega) (.inl rfl) (.inl rfl)
  · rw [Bool.not_eq_true] at hok
    rw [hok]
    obtain rfl : RS = false := by rw [← HRS.out]; exact (sl_no (xs := xs) (us := us) (by rw [hok, Bool.false_and])).1
    obtain rfl : RN = [] := by rw [← HRN.out]; exact (sl_no (s := s) (t := t) (by rw [hok, Bool.false_and])).2
    obtain rfl : RD = [] := by rw [← HRD.out]; exact (sl_no (s := s) (t := t) (by rw [hok, Bool.false_and])).2
    have hk_res_0_1 := K_res_1.out.cell 0 _ rfl
    have hk_res_0_1f := K_res_1.out.froz 0 _ rfl
    have hk_res_1_1 := K_res_1.out.cell 1 _ rfl
    have hk_res_1_1f := K_res_1.out.froz 1 _ rfl
    have hk_res_2_1 := K_res_1.out.cell 2 _ rfl
    have hk_res_2_1f := K_res_1.out.froz 2 _ rfl
    go_wp2
    have hr0 := K_res_1.out.cell 0 _ rfl
    have hr1 := K_res_1.out.cell 1 _ rfl
    have hr2 := K_res_1.out.cell 2 _ rfl
    refine bodyPost_ret (v := .agg #[.bool false, .slice none 0 0, .slice none 0 0]) (by simp [results, Try.results12, go_sem, hr0, hr1, hr2]) rfl ?_
    exact ownRR_close HB_1.out (OwnV.nil _ (w.heap.size + 1 + 1 + 1) _) (OwnV.nil _ (w.heap.size + 1 + 1 + 1) _) (Nat.lt_succ_self _) (Nat.lt_succ_self _) (by omega) (.inl rfl) (.inl rfl)
set_option maxRecDepth 100000 in
set_option maxHeartbeats 4000000 in
theorem ratMax_impl (s : Bool) (A : Option Addr) (n c : Nat) (xs : List Int) (B : Option Addr) (m d : Nat) (ys : List Int) (t : Bool) (C : Option Addr) (p q : Nat) (us : List Int) (E : Option Addr) (k l : Nat) (vs : List Int) (w : World) (hA : Arg w A n c (ints xs)) (hB : Arg w B m d (ints ys)) (hC : Arg w C p q (ints us)) (hE : Arg w E k l (ints vs)) :
    Calls Try.prog 13 #[.agg #[.bool s, .slice A n c, .slice B m d], .agg #[.bool t, .slice C p q, .slice E k l]] w (OwnRR 3 (mxS s xs ys t us vs) (nats (mxN s xs ys t us vs)) (nats (mxD s xs ys t us vs)) w) := by
  obtain ⟨RS, hRS⟩ : ∃ y9, mxS s xs ys t us vs = y9 := ⟨_, rfl⟩
  obtain ⟨RN, hRN⟩ : ∃ y9, mxN s xs ys t us vs = y9 := ⟨_, rfl⟩
  obtain ⟨RD, hRD⟩ : ∃ y9, mxD s xs ys t us vs = y9 := ⟨_, rfl⟩
  rw [hRS, hRN, hRD]
  have HRS := Lib.hid hRS
  have HRN := Lib.hid hRN
  have HRD := Lib.hid hRD
  clear hRS hRN hRD
  obtain ⟨Q, hQ⟩ : ∃ y9, cmpZ (zOf t us * (val (toN ys) : Int)) (zOf s xs * (val (toN vs) : Int)) = y9 := ⟨_, rfl⟩
  have HQ := Lib.hid hQ
  have HA := Lib.hid hA
  have HB := Lib.hid hB
  have HC := Lib.hid hC
  have HE := Lib.hid hE
  clear hQ hA hB hC hE
  go_enter Try.func13, Try.ntmps13
  have HB_0 := Lib.hid ((((Below.refl w.heap.size w).alloc (Nat.le_refl _) (.cells #[.bool s, .slice A n c, .slice B m d] 30)).alloc (by simp) (.cells #[.bool t, .slice C p q, .slice E k l] 30)).alloc (by simp; omega) (.cells #[.bool false, .slice none 0 0, .slice none 0 0] 30))
  have K_a_0 := Lib.hid (((HeldL.new_at w (w.heap.size) [.bool s, .slice A n c, .slice B m d] 30 (by first | rfl | simp)).alloc (.cells #[.bool t, .slice C p q, .slice E k l] 30)).alloc (.cells #[.bool false, .slice none 0 0, .slice none 0 0] 30))
  have K_b_0 := Lib.hid ((HeldL.new_at (w.alloc (.cells #[.bool s, .slice A n c, .slice B m d] 30)) (w.heap.size + 1) [.bool t, .slice C p q, .slice E k l] 30 (by first | rfl | simp)).alloc (.cells #[.bool false, .slice none 0 0, .slice none 0 0] 30))
  have K_res_0 := Lib.hid (HeldL.new_at ((w.alloc (.cells #[.bool s, .slice A n c, .slice B m d] 30)).alloc (.cells #[.bool t, .slice C p q, .slice E k l] 30)) (w.heap.size + 1 + 1) [.bool false, .slice none 0 0, .slice none 0 0] 30 (by first | rfl | simp))
  have hne_a_b : w.heap.size ≠ w.heap.size + 1 := by omega
  have hne_a_res : w.heap.size ≠ w.heap.size + 1 + 1 := by omega
  have hne_b_a : w.heap.size + 1 ≠ w.heap.size := by omega
  have hne_b_res : w.heap.size + 1 ≠ w.heap.size + 1 + 1 := by omega
  have hne_res_a : w.heap.size + 1 + 1 ≠ w.heap.size := by omega
  have hne_res_b : w.heap.size + 1 + 1 ≠ w.heap.size + 1 := by omega
  go_wp2_with fail
  refine (areValid_any s A n c xs B m d ys t C p q us E k l vs _ (HA.out.below HB_0.out (Nat.le_refl _)) (HB.out.below HB_0.out (Nat.le_refl _)) (HC.out.below HB_0.out (Nat.le_refl _)) (HE.out.below HB_0.out (Nat.le_refl _))).mono ?_
  rintro e w1 ⟨rfl, hb⟩
  have K_a_1 := Lib.hid (K_a_0.out.after hb)
  have K_b_1 := Lib.hid (K_b_0.out.after hb)
  have K_res_1 := Lib.hid (K_res_0.out.after hb)
  have HB_1 := Lib.hid (HB_0.out.trans (hb.mono HB_0.out.size))
  clear hb
  by_cases hok : (okR s xs ys && okR t us vs) = true
  · rw [hok]
    have HOK := Lib.hid (Bool.and_eq_true_iff.mp hok).1
    have HOK2 := Lib.hid (Bool.and_eq_true_iff.mp hok).2
    clear hok
    have HOKK := Lib.hid (show (okR s xs ys && okR t us vs) = true by rw [HOK.out, HOK2.out]; rfl)
    have hk_a_0_1 := K_a_1.out.cell 0 _ rfl
    have hk_a_1_1 := K_a_1.out.cell 1 _ rfl
    have hk_a_2_1 := K_a_1.out.cell 2 _ rfl
    have hk_b_0_1 := K_b_1.out.cell 0 _ rfl
    have hk_b_1_1 := K_b_1.out.cell 1 _ rfl
    have hk_b_2_1 := K_b_1.out.cell 2 _ rfl
    go_wp2_with fail
    refine (compareR_at t C p q us E k l vs s A n c xs B m d ys Q HQ.out HOK2.out HOK.out _ (HC.out.below HB_1.out (Nat.le_refl _)) (HE.out.below HB_1.out (Nat.le_refl _)) (HA.out.below HB_1.out (Nat.le_refl _)) (HB.out.below HB_1.out (Nat.le_refl _))).mono ?_
    rintro e w5 ⟨rfl, hb⟩
    have K_a_2 := Lib.hid (K_a_1.out.after hb)
    have K_b_2 := Lib.hid (K_b_1.out.after hb)
    have K_res_2 := Lib.hid (K_res_1.out.after hb)
    have HB_2 := Lib.hid (HB_1.out.trans (hb.mono HB_1.out.size))
    clear hb
    clear hk_a_0_1
    clear hk_a_1_1
    clear hk_a_2_1
    clear hk_b_0_1
    clear hk_b_1_1
    clear hk_b_2_1
    by_cases hq : 0 < Q
    · have HP := Lib.hid (show mxP s xs ys t us vs = false by unfold mxP; rw [cmpZ_swap, HQ.out]; simp; omega)
      have HLS := Lib.hid (((sl_right (xs := xs) (us := us) HOKK.out HP.out).1.symm).trans HRS.out)
      have HLN := Lib.hid (((sl_right (s := s) (t := t) (xs := xs) (us := us) HOKK.out HP.out).2.symm).trans HRN.out)
      have HLD := Lib.hid (((sl_right (s := s) (t := t) (xs := ys) (us := vs) HOKK.out HP.out).2.symm).trans HRD.out)
      have hk_b_0_2 := K_b_2.out.cell 0 _ rfl
      have hk_b_1_2 := K_b_2.out.cell 1 _ rfl
      have hk_b_2_2 := K_b_2.out.cell 2 _ rfl
      have hk_res_0_2 := K_res_2.out.cell 0 _ rfl
      have hk_res_0_2f := K_res_2.out.froz 0 _ rfl
      have hk_res_1_2 := K_res_2.out.cell 1 _ rfl
      have hk_res_1_2f := K_res_2.out.froz 1 _ rfl
      have hk_res_2_2 := K_res_2.out.cell 2 _ rfl
      have hk_res_2_2f := K_res_2.out.froz 2 _ rfl
      go_wp2_with fail
      refine (copiedR_at t C p q us E k l vs RS RN RD HLS.out HLN.out HLD.out HOK2.out _ (HC.out.below HB_2.out (Nat.le_refl _)) (HE.out.below HB_2.out (Nat.le_refl _))).mono ?_
      rintro e w9 ⟨v9n, v9d, rfl, hon, hod, apn, apd, hb⟩
      obtain ⟨A9n, c9n, rfl⟩ := hon.shape
      have HO9n := Lib.hid hon
      obtain ⟨A9d, c9d, rfl⟩ := hod.shape
      have HO9d := Lib.hid hod
      have AP_O9n_O9d := Lib.hid apn
      have AP_O9d_O9n := Lib.hid apd
      clear hon hod apn apd
      have K_a_3 := Lib.hid (K_a_2.out.after hb)
      have K_b_3 := Lib.hid (K_b_2.out.after hb)
      have K_res_3 := Lib.hid (K_res_2.out.after hb)
      have HB_3 := Lib.hid (HB_2.out.trans (hb.mono HB_2.out.size))
      clear hb
      clear hk_b_0_2
      clear hk_b_1_2
      clear hk_b_2_2
      clear hk_res_0_2
      clear hk_res_0_2f
      clear hk_res_1_2
      clear hk_res_1_2f
      clear hk_res_2_2
      clear hk_res_2_2f
      have hk_res_0_3 := K_res_3.out.cell 0 _ rfl
      have hk_res_0_3f := K_res_3.out.froz 0 _ rfl
      have hk_res_1_3 := K_res_3.out.cell 1 _ rfl
      have hk_res_1_3f := K_res_3.out.froz 1 _ rfl
      have hk_res_2_3 := K_res_3.out.cell 2 _ rfl
      have hk_res_2_3f := K_res_3.out.froz 2 _ rfl
      go_wp2
      have hr0 := K_res_3.out.cell 0 _ rfl
      have hr1 := K_res_3.out.cell 1 _ rfl
      have hr2 := K_res_3.out.cell 2 _ rfl
      exact bodyPost_ret (v := .agg #[.bool RS, .slice A9n (nats RN).length c9n, .slice A9d (nats RD).length c9d]) (by simp [results, Try.results13, go_sem, hr0, hr1, hr2]) rfl (ownRR_close HB_3.out HO9n.out HO9d.out K_res_2.out.lt K_res_2.out.lt (by omega) AP_O9n_O9d.out AP_O9d_O9n.out)
    · have HP := Lib.hid (show mxP s xs ys t us vs = true by unfold mxP; rw [cmpZ_swap, HQ.out]; simp; omega)
      have HLS := Lib.hid (((sl_left (xs := xs) (us := us) HOKK.out HP.out).1.symm).trans HRS.out)
      have HLN := Lib.hid (((sl_left (s := s) (t := t) (xs := xs) (us := us) HOKK.out HP.out).2.symm).trans HRN.out)
      have HLD := Lib.hid (((sl_left (s := s) (t := t) (xs := ys) (us := vs) HOKK.out HP.out).2.symm).trans HRD.out)
      have hk_a_0_2 := K_a_2.out.cell 0 _ rfl
      have hk_a_1_2 := K_a_2.out.cell 1 _ rfl
      have hk_a_2_2 := K_a_2.out.cell 2 _ rfl
      have hk_res_0_2 := K_res_2.out.cell 0 _ rfl
      have hk_res_0_2f := K_res_2.out.froz 0 _ rfl
      have hk_res_1_2 := K_res_2.out.cell 1 _ rfl
      have hk_res_1_2f := K_res_2.out.froz 1 _ rfl
      have hk_res_2_2 := K_res_2.out.cell 2 _ rfl
      have hk_res_2_2f := K_res_2.out.froz 2 _ rfl
      go_wp2_with fail
      refine (copiedR_at s A n c xs B m d ys RS RN RD HLS.out HLN.out HLD.out HOK.out _ (HA.out.below HB_2.out (Nat.le_refl _)) (HB.out.below HB_2.out (Nat.le_refl _))).mono ?_
      rintro e w9 ⟨v9n, v9d, rfl, hon, hod, apn, apd, hb⟩
      obtain ⟨A9n, c9n, rfl⟩ := hon.shape
      have HO9n := Lib.hid hon
      obtain ⟨A9d, c9d, rfl⟩ := hod.shape
      have HO9d := Lib.hid hod
      have AP_O9n_O9d := Lib.hid apn
      have AP_O9d_O9n := Lib.hid apd
      clear hon hod apn apd
      have K_a_3 := Lib.hid (K_a_2.out.after hb)
      have K_b_3 := Lib.hid (K_b_2.out.after hb)
      have K_res_3 := Lib.hid (K_res_2.out.after hb)
      have HB_3 := Lib.hid (HB_2.out.trans (hb.mono HB_2.out.size))
      clear hb
      clear hk_a_0_2
      clear hk_a_1_2
      clear hk_a_2_2
      clear hk_res_0_2
      clear hk_res_0_2f
      clear hk_res_1_2
      clear hk_res_1_2f
      clear hk_res_2_2
      clear hk_res_2_2f
      have hk_res_0_3 := K_res_3.out.cell 0 _ rfl
      have hk_res_0_3f := K_res_3.out.froz 0 _ rfl
      have hk_res_1_3 := K_res_3.out.cell 1 _ rfl
      have hk_res_1_3f := K_res_3.out.froz 1 _ rfl
      have hk_res_2_3 := K_res_3.out.cell 2 _ rfl
      have hk_res_2_3f := K_res_3.out.froz 2 _ rfl
      go_wp2
      have hr0 := K_res_3.out.cell 0 _ rfl
      have hr1 := K_res_3.out.cell 1 _ rfl
      have hr2 := K_res_3.out.cell 2 _ rfl
      exact bodyPost_ret (v := .agg #[.bool RS, .slice A9n (nats RN).length c9n, .slice A9d (nats RD).length c9d]) (by simp [results, Try.results13, go_sem, hr0, hr1, hr2]) rfl (ownRR_close HB_3.out HO9n.out HO9d.out K_res_2.out.lt K_res_2.out.lt (by omega) AP_O9n_O9d.out AP_O9d_O9n.out)
  · rw [Bool.not_eq_true] at hok
    rw [hok]
    obtain rfl : RS = false := by rw [← HRS.out]; exact (sl_no (xs := xs) (us := us) (hok)).1
    obtain rfl : RN = [] := by rw [← HRN.out]; exact (sl_no (s := s) (t := t) (hok)).2
    obtain rfl : RD = [] := by rw [← HRD.out]; exact (sl_no (s := s) (t := t) (hok)).2
    have hk_res_0_1 := K_res_1.out.cell 0 _ rfl
    have hk_res_0_1f := K_res_1.out.froz 0 _ rfl
    have hk_res_1_1 := K_res_1.out.cell 1 _ rfl
    have hk_res_1_1f := K_res_1.out.froz 1 _ rfl
    have hk_res_2_1 := K_res_1.out.cell 2 _ rfl
    have hk_res_2_1f := K_res_1.out.froz 2 _ rfl
    go_wp2
    have hr0 := K_res_1.out.cell 0 _ rfl
    have hr1 := K_res_1.out.cell 1 _ rfl
    have hr2 := K_res_1.out.cell 2 _ rfl
    refine bodyPost_ret (v := .agg #[.bool false, .slice none 0 0, .slice none 0 0]) (by simp [results, Try.results13, go_sem, hr0, hr1, hr2]) rfl ?_
    exact ownRR_close HB_1.out (OwnV.nil _ (w.heap.size + 1 + 1 + 1) _) (OwnV.nil _ (w.heap.size + 1 + 1 + 1) _) (Nat.lt_succ_self _) (Nat.lt_succ_self _) (by omega) (.inl rfl) (.inl rfl)
end Go.Proofs.Ytbblfledkmcfmab
