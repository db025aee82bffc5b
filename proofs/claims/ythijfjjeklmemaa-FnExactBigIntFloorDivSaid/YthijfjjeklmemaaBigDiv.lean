/- Big integers: BigIntFloorDiv of the model and of the program. Conditions: none. -/
import Derived.Test.YthijfjjeklmemaaProg
import Derived.Test.YthijfjjeklmemaaBigMake
import Derived.Test.YthijfjjeklmemaaNatDiv
namespace Go.Proofs.Ythijfjjeklmemaa
open Go.RowKit Nt
set_option linter.unusedVariables false

/-- The floor's magnitude and the remainder, over natural numbers. -/
def qD (s : Bool) (X M : Nat) : Nat := if s = true ∧ X % M ≠ 0 then X / M + 1 else X / M
def rD (s : Bool) (X M : Nat) : Nat := if s = true ∧ X % M ≠ 0 then M - X % M else X % M
def okD (s : Bool) (xs ys : List Int) : Bool := okB s xs && (okI ys && decide (0 < ys.length))
/-- What BigIntFloorDiv answers: sign, limbs, remainder. -/
def fS (s : Bool) (xs ys : List Int) : Bool := okD s xs ys && sgZ (signed s (qD s (val (toN xs)) (val (toN ys))))
def fM (s : Bool) (xs ys : List Int) : List Nat := if okD s xs ys = true then capd (qD s (val (toN xs)) (val (toN ys))) else []
def fR (s : Bool) (xs ys : List Int) : List Nat := if okD s xs ys = true then dig (rD s (val (toN xs)) (val (toN ys))) else []
theorem fM_len (s : Bool) (xs ys : List Int) : (fM s xs ys).length ≤ 60 := by unfold fM; split; exact capd_len _; simp
theorem okD_pos {s : Bool} {xs ys : List Int} (h : okD s xs ys = true) : okB s xs = true ∧ okI ys = true ∧ 0 < ys.length ∧ 0 < val (toN ys) := by
  unfold okD at h
  simp at h
  refine ⟨h.1, h.2.1, h.2.2, Nat.pos_of_ne_zero fun h0 => ?_⟩
  have e := can_val_zero (okI_nats h.2.1).2.1 h0
  have := toN_len ys
  rw [e] at this
  simp at this
  omega
theorem fR_len (s : Bool) (xs ys : List Int) : (fR s xs ys).length ≤ 60 := by
  unfold fR
  split
  · rename_i h
    obtain ⟨_, h2, _, h4⟩ := okD_pos h
    obtain ⟨_, h5, h6⟩ := okI_nats h2
    refine dig_len (Nat.lt_of_lt_of_le (Nat.lt_of_le_of_lt ?_ (val_lt h5.1)) (Nat.pow_le_pow_right (by decide) h6))
    have := Nat.mod_lt (val (toN xs)) h4
    unfold rD
    split <;> omega
  · simp
theorem f_no {s : Bool} {xs ys : List Int} (h : okD s xs ys = false) : fS s xs ys = false ∧ fM s xs ys = [] ∧ fR s xs ys = [] := by
  refine ⟨by unfold fS; rw [h]; rfl, ?_, ?_⟩
  · unfold fM; rw [h]; rfl
  · unfold fR; rw [h]; rfl
theorem f_yes {s : Bool} {xs ys : List Int} (h : okD s xs ys = true) : fS s xs ys = sgZ (signed s (qD s (val (toN xs)) (val (toN ys)))) ∧ fM s xs ys = capd (qD s (val (toN xs)) (val (toN ys))) ∧ fR s xs ys = dig (rD s (val (toN xs)) (val (toN ys))) := by
  refine ⟨by unfold fS; rw [h]; rfl, ?_, ?_⟩
  · unfold fM; rw [h]; rfl
  · unfold fR; rw [h]; rfl
/-- What a function leaves that returns a big integer and a row in new memory. -/
def OwnRD (e : TypeId) (sg : Bool) (q r : List Value) (w : World) (en : Ending) (w' : World) : Prop :=
  ∃ v0 v1, en = .returned (.tuple #[.agg #[.bool sg, v0], v1]) ∧ OwnV w' w.heap.size e v0 q ∧ OwnV w' w.heap.size e v1 r ∧ (v0.ownBlock = none ∨ v0.ownBlock ≠ v1.ownBlock) ∧ (v1.ownBlock = none ∨ v1.ownBlock ≠ v0.ownBlock) ∧ Below w.heap.size w w'
theorem ownRD_close {w w2 : World} {e : TypeId} {s : Bool} {v r : Value} {xs ys : List Value} {b b1 b2 : Nat} (hb : Below w.heap.size w w2) (h1 : OwnV w2 b1 e v xs) (h2 : OwnV w2 b2 e r ys) (l1 : b < b1) (l2 : b < b2) (hB : w.heap.size ≤ b) (a1 : v.ownBlock = none ∨ v.ownBlock ≠ r.ownBlock) (a2 : r.ownBlock = none ∨ r.ownBlock ≠ v.ownBlock) :
    OwnRD e s xs ys w (.returned (.tuple #[.agg #[.bool s, v], r])) ((w2.setCell ⟨b, 0, none⟩ (.bool s)).setCell ⟨b, 1, none⟩ v) :=
  ⟨v, r, rfl, ((h1.setBelow l1 _).setBelow l1 _).based (by omega), ((h2.setBelow l2 _).setBelow l2 _).based (by omega), a1, a2, (hb.setCell hB _).setCell hB _⟩
theorem f_zero {s : Bool} {xs ys : List Int} (h1 : okB s xs = true) (h : okD s xs ys = false) : quoN xs ys = [] ∧ remN xs ys = [] := by
  by_cases h2 : okI ys = true
  · have hl : ys.length = 0 := by
      unfold okD at h
      rw [h1, h2] at h
      simp at h
      simp [h]
    have hv : val (toN ys) = 0 := by rw [List.eq_nil_of_length_eq_zero hl]; rfl
    have hd := divN_yes (okB_ok h1) h2
    rw [hv] at hd
    refine ⟨?_, ?_⟩
    · rw [hd.1, Nat.div_zero, dig_zero]
    · rw [hd.2, if_neg (by simp)]
  · exact divN_no (.inr (by simpa using h2))
theorem one_row (w : World) (t : TypeId) : VRow (w.alloc (.cells #[.int .i64 1] t)) (some ⟨w.heap.size, 0, none⟩) 1 (nats [1]) := by
  refine ⟨rfl, fun _ => ⟨w.heap.size, 0, rfl, by simp, fun k hk => ?_⟩⟩
  match k, hk with
  | 0, _ => simp [go_sem, nats, ints]
set_option maxRecDepth 100000 in
set_option maxHeartbeats 4000000 in
theorem bigIntFloorDiv_spec (s : Bool) (A B : Option Addr) (n c m d : Nat) (xs ys : List Int) (w : World) (hA : VRow w A n (ints xs)) (hB : VRow w B m (ints ys)) (hn : n ≤ maxLen) (hm : m ≤ maxLen) :
    Calls Try.prog 33 #[.agg #[.bool s, .slice A n c], .slice B m d] w (OwnRD 3 (fS s xs ys) (nats (fM s xs ys)) (nats (fR s xs ys)) w) := by
  obtain ⟨RS, hRS⟩ : ∃ b, fS s xs ys = b := ⟨_, rfl⟩
  obtain ⟨RM, hRM⟩ : ∃ l, fM s xs ys = l := ⟨_, rfl⟩
  obtain ⟨RR, hRR⟩ : ∃ l, fR s xs ys = l := ⟨_, rfl⟩
  rw [hRS, hRM, hRR]
  have HRS := Lib.hid hRS
  have HRM := Lib.hid hRM
  have HRR := Lib.hid hRR
  clear hRS hRM hRR
  have hm63 : m ≤ 9223372036854775807 := by unfold maxLen at hm; omega
  have HA := Lib.hid hA
  have HB := Lib.hid hB
  have HN := Lib.hid hn
  have HM := Lib.hid hm
  have HL := Lib.hid (show xs.length = n by simpa [ints] using hA.1)
  have HL2 := Lib.hid (show ys.length = m by simpa [ints] using hB.1)
  clear hA hB hn hm
  go_enter Try.func33, Try.ntmps33
  have HB_0 := Lib.hid (((Below.refl w.heap.size w).alloc (Nat.le_refl _) (.cells #[.bool s, .slice A n c] 27)).alloc (by simp) (.cells #[.bool false, .slice none 0 0] 27))
  have K0_0 := Lib.hid ((Held.new_at w (w.heap.size) (.bool s) (.slice A n c) 27 (by first | rfl | simp)).alloc (.cells #[.bool false, .slice none 0 0] 27))
  have K1_0 := Lib.hid (Held.new_at (w.alloc (.cells #[.bool s, .slice A n c] 27)) (w.heap.size + 1) (.bool false) (.slice none 0 0) 27 (by first | rfl | simp))
  have hne01 : w.heap.size ≠ w.heap.size + 1 := by omega
  have hne10 : w.heap.size + 1 ≠ w.heap.size := by omega
  go_wp2_with fail
  refine (bigIntOk_spec s A n c xs _ (HA.out.below HB_0.out (Nat.le_refl _)) HN.out).mono ?_
  rintro e w0 ⟨rfl, hb⟩
  have K0_1 := Lib.hid (K0_0.out.after hb)
  have K1_1 := Lib.hid (K1_0.out.after hb)
  have HB_1 := Lib.hid (HB_0.out.trans (hb.mono HB_0.out.size))
  clear hb
  by_cases hok : okB s xs = true
  · rw [hok]
    go_wp2_with fail
    refine (natOk_spec B m d ys _ (HB.out.below HB_1.out (Nat.le_refl _)) HM.out).mono ?_
    rintro e w01 ⟨rfl, hb⟩
    have K0_2 := Lib.hid (K0_1.out.after hb)
    have K1_2 := Lib.hid (K1_1.out.after hb)
    have HB_2 := Lib.hid (HB_1.out.trans (hb.mono HB_1.out.size))
    clear hb
    by_cases hok2 : okI ys = true
    · rw [hok2]
      by_cases h0 : m = 0
      · subst h0
        have hno := f_no (s := s) (xs := xs) (ys := ys) (by unfold okD; simp [HL2.out])
        obtain rfl : RS = false := by rw [← HRS.out]; exact hno.1
        obtain rfl : RM = [] := by rw [← HRM.out]; exact hno.2.1
        obtain rfl : RR = [] := by rw [← HRR.out]; exact hno.2.2
        clear hno
        have hk1c0_2 := K1_2.out.c0
        have hk1c1_2 := K1_2.out.c1
        have hk1f0_2 := K1_2.out.f0
        have hk1f1_2 := K1_2.out.f1
        go_wp2
        have hr0 := K1_2.out.c0
        have hr1 := K1_2.out.c1
        exact bodyPost_ret (v := .tuple #[.agg #[.bool false, .slice none 0 0], .slice none 0 0]) (by simp [results, Try.results33, go_sem, hr0, hr1]) rfl (ownRD_close HB_2.out (OwnV.nil _ (w.heap.size + 1 + 1) _) (OwnV.nil _ (w.heap.size + 1 + 1) _) (Nat.lt_succ_self _) (Nat.lt_succ_self _) (by omega) (.inl rfl) (.inl rfl))
      · have hokD : okD s xs ys = true := by unfold okD; rw [hok, hok2, HL2.out]; simp; omega
        obtain ⟨_, _, _, hMp⟩ := okD_pos hokD
        have HY := Lib.hid (f_yes hokD)
        obtain ⟨hex, hcanx, hl60x⟩ := okI_nats (okB_ok hok)
        have hlenx : n ≤ 60 := by have h1 := HL.out; rw [toN_len] at hl60x; omega
        have HAn := Lib.hid (hex ▸ HA.out)
        have HCx := Lib.hid hcanx
        clear hex hcanx hl60x
        obtain ⟨hey, hcany, hl60y⟩ := okI_nats hok2
        have hleny : m ≤ 60 := by have h1 := HL2.out; rw [toN_len] at hl60y; omega
        have HBn := Lib.hid (hey ▸ HB.out)
        have HCy := Lib.hid hcany
        clear hey hcany hl60y hok hok2 hokD
        obtain ⟨X, hX⟩ : ∃ X, val (toN xs) = X := ⟨_, rfl⟩
        obtain ⟨M, hM⟩ : ∃ M, val (toN ys) = M := ⟨_, rfl⟩
        rw [hX, hM] at HY
        rw [hM] at hMp
        have HX := Lib.hid hX
        have HMv := Lib.hid hM
        have HMp := Lib.hid hMp
        clear hX hM hMp
        have hk0c0_2 := K0_2.out.c0
        have hk0c1_2 := K0_2.out.c1
        have hk1c0_2 := K1_2.out.c0
        have hk1c1_2 := K1_2.out.c1
        have hk1f0_2 := K1_2.out.f0
        have hk1f1_2 := K1_2.out.f1
        go_wp2_with fail
        refine (l02Div_any A B n c m d (toN xs) (toN ys) _ (HAn.out.below HB_2.out (Nat.le_refl _)) (HBn.out.below HB_2.out (Nat.le_refl _)) HCx.out.1 HCy.out (by omega) (by omega) (by omega)).mono ?_
        rintro e w1 ⟨v0, v1, rfl, ho0, ho1, ap0, ap1, hb⟩
        rw [HX.out, HMv.out] at ho0 ho1
        obtain ⟨A1, c1, rfl⟩ := ho0.shape
        obtain ⟨A2, c2, rfl⟩ := ho1.shape
        have HQ := Lib.hid ho0
        clear ho0
        have HR := Lib.hid ho1
        clear ho1
        have AP0 := Lib.hid ap0
        clear ap0
        have AP1 := Lib.hid ap1
        clear ap1
        have K0_3 := Lib.hid (K0_2.out.after hb)
        have K1_3 := Lib.hid (K1_2.out.after hb)
        have HB_3 := Lib.hid (HB_2.out.trans (hb.mono HB_2.out.size))
        clear hb
        clear hk0c0_2
        clear hk0c1_2
        clear hk1c0_2
        clear hk1c1_2
        clear hk1f0_2
        clear hk1f1_2
        have hk0c0_3 := K0_3.out.c0
        have hk0c1_3 := K0_3.out.c1
        have hk1c0_3 := K1_3.out.c0
        have hk1c1_3 := K1_3.out.c1
        have hk1f0_3 := K1_3.out.f0
        have hk1f1_3 := K1_3.out.f1
        have hrl : (nats (dig (X % M))).length ≤ 9223372036854775807 := by have := HR.out.cap; unfold maxLen at this; omega
        have hql : (nats (dig (X / M))).length ≤ 9223372036854775807 := by have := HQ.out.cap; unfold maxLen at this; omega
        by_cases hcs : s = true ∧ X % M ≠ 0
        · obtain ⟨rfl, hr⟩ := hcs
          have hrp : 0 < (nats (dig (X % M))).length := by rw [nats_len]; exact List.length_pos_iff.mpr (dig_ne (by omega))
          have eq : qD true X M = X / M + 1 := if_pos ⟨rfl, hr⟩
          have er : rD true X M = M - X % M := if_pos ⟨rfl, hr⟩
          rw [eq, er] at HY
          clear eq er
          obtain ⟨LR, hLR⟩ : ∃ k, (nats (dig (X % M))).length = k := ⟨_, rfl⟩
          have HLR := Lib.hid hLR
          rw [hLR] at hrp hrl HR AP0 AP1 ⊢
          clear hLR hr
          go_wp2_with fail
          have hor := one_row w1 3
          refine (l02Add_any A1 (some ⟨w1.heap.size, 0, none⟩) _ c1 1 1 (dig (X / M)) [1] _ ((HQ.out.row).below ((Below.refl _ _).alloc (Nat.le_refl _) _) (Nat.le_refl _)) hor (dig_can _).1 (by intro x hx; simp at hx; omega) ?hl (by omega)).mono ?_
          case hl => have := (dig_len_iff (n := X / M) (k := 60)).mpr (Nat.lt_of_le_of_lt (Nat.div_le_self _ _) (by rw [← HX.out]; exact Nat.lt_of_lt_of_le (val_lt HCx.out.1) (Nat.pow_le_pow_right (by decide) (by rw [toN_len, HL.out]; exact hlenx)))); rw [nats_len]; omega
          rintro e w2 ⟨rs, hrs, hv, v, rfl, ho, hb⟩
          obtain ⟨A3, c3, rfl⟩ := ho.shape
          have HRD := Lib.hid hrs
          have HRV := Lib.hid hv
          have HS3 := Lib.hid ho
          clear hrs hv ho hor
          have K0_4 := Lib.hid ((K0_3.out.alloc _).after hb)
          have K1_4 := Lib.hid ((K1_3.out.alloc _).after hb)
          have HR_4 := Lib.hid ((HR.out.below ((Below.refl _ _).alloc (Nat.le_refl _) _)).below hb)
          have HB_4 := Lib.hid ((HB_3.out.alloc HB_3.out.size _).trans (hb.mono (by have := HB_3.out.size; simp; omega)))
          clear hb
          clear hk0c0_3
          clear hk0c1_3
          clear hk1c0_3
          clear hk1c1_3
          clear hk1f0_3
          clear hk1f1_3
          have hk1c0_4 := K1_4.out.c0
          have hk1c1_4 := K1_4.out.c1
          have hk1f0_4 := K1_4.out.f0
          have hk1f1_4 := K1_4.out.f1
          go_wp2_with fail
          refine (l03Make_at true A3 _ c3 rs (signed true (X / M + 1)) (by rw [HRV.out, val_dig]; rfl) _ HS3.out.row HRD.out HS3.out.cap.1 HS3.out.cap.2 HS3.out.nil_cap).mono ?_
          rintro e w3 ⟨v9, rfl, ho9, hb⟩
          rw [magZ_signed, ← HY.out.2.1, HRM.out] at ho9
          rw [← HY.out.1, HRS.out]
          obtain ⟨A9, c9, rfl⟩ := ho9.shape
          have HO9 := Lib.hid ho9
          clear ho9
          have K0_5 := Lib.hid (K0_4.out.after hb)
          have K1_5 := Lib.hid (K1_4.out.after hb)
          have HR_5 := Lib.hid (OwnV.below (w := w2) HR_4.out hb)
          have HB_5 := Lib.hid (HB_4.out.trans (hb.mono HB_4.out.size))
          clear hb
          clear hk1c0_4
          clear hk1c1_4
          clear hk1f0_4
          clear hk1f1_4
          have hk1c0_5 := K1_5.out.c0
          have hk1c1_5 := K1_5.out.c1
          have hk1f0_5 := K1_5.out.f0
          have hk1f1_5 := K1_5.out.f1
          go_wp2_with fail
          have hlt9 : val (dig (X % M)) ≤ val (toN ys) := by rw [val_dig, HMv.out]; exact Nat.le_of_lt (Nat.mod_lt _ HMp.out)
          have hle9 : LR ≤ m := by have h1 := canon_len (dig_can (X % M)) HCy.out.1 hlt9; rw [toN_len, HL2.out, ← nats_len, HLR.out] at h1; exact h1
          have h9 := l02Sub_any B A2 m d LR c2 (toN ys) (dig (X % M)) w3 (HBn.out.below HB_5.out (Nat.le_refl _)) HR_5.out.row HCy.out.1 (dig_can _).1 hle9 hlt9 (by omega)
          rw [val_dig, HMv.out, ← HY.out.2.2, HRR.out] at h9
          refine h9.mono ?_
          clear h9 hlt9 hle9
          rintro e w4 ⟨v, rfl, ho, hb⟩
          obtain ⟨A4, c4, rfl⟩ := ho.shape
          have AQ0 := Lib.hid (OwnV.apart HO9.out ho (Nat.le_refl _))
          have AQ1 := Lib.hid (OwnV.apart' ho HO9.out (Nat.le_refl _))
          have HO4 := Lib.hid ho
          clear ho
          have K0_6 := Lib.hid (K0_5.out.after hb)
          have K1_6 := Lib.hid (K1_5.out.after hb)
          have HO9_6 := Lib.hid (OwnV.below (w := w3) HO9.out hb)
          have HB_6 := Lib.hid (HB_5.out.trans (hb.mono HB_5.out.size))
          clear hb
          clear hk1c0_5
          clear hk1c1_5
          clear hk1f0_5
          clear hk1f1_5
          have hk1c0_6 := K1_6.out.c0
          have hk1c1_6 := K1_6.out.c1
          have hk1f0_6 := K1_6.out.f0
          have hk1f1_6 := K1_6.out.f1
          go_wp2
          have hr0 := K1_6.out.c0
          have hr1 := K1_6.out.c1
          exact bodyPost_ret (v := .tuple #[.agg #[.bool RS, .slice A9 (nats RM).length c9], .slice A4 (nats RR).length c4]) (by simp [results, Try.results33, go_sem, hr0, hr1]) rfl (ownRD_close HB_6.out HO9_6.out HO4.out K1_4.out.lt K1_5.out.lt (by omega) AQ0.out AQ1.out)
        · have eq : qD s X M = X / M := if_neg hcs
          have er : rD s X M = X % M := if_neg hcs
          rw [eq, er] at HY
          clear eq er
          have hz : s = true → (nats (dig (X % M))).length = 0 := by intro h; rw [nats_len, List.length_eq_zero_iff, dig_nil_iff]; exact Classical.byContradiction fun h2 => hcs ⟨h, h2⟩
          obtain ⟨LR, hLR⟩ : ∃ k, (nats (dig (X % M))).length = k := ⟨_, rfl⟩
          have HLR := Lib.hid hLR
          rw [hLR] at hz hrl HR AP0 AP1 ⊢
          clear hLR hcs
          have HZ := Lib.hid hz
          clear hz
          cases s
          · go_wp2_with fail
            refine (l03Make_at false A1 _ c1 _ (signed false (X / M)) (by rw [val_dig]) _ HQ.out.row (dig_can _).1 HQ.out.cap.1 HQ.out.cap.2 HQ.out.nil_cap).mono ?_
            rintro e w3 ⟨v9, rfl, ho9, hb⟩
            rw [magZ_signed, ← HY.out.2.1, HRM.out] at ho9
            rw [← HY.out.1, HRS.out]
            obtain ⟨A9, c9, rfl⟩ := ho9.shape
            have AQ0 := Lib.hid (OwnV.apart HR.out ho9 (Nat.le_refl _))
            have AQ1 := Lib.hid (OwnV.apart' ho9 HR.out (Nat.le_refl _))
            have HO9 := Lib.hid ho9
            clear ho9
            have K0_4 := Lib.hid (K0_3.out.after hb)
            have K1_4 := Lib.hid (K1_3.out.after hb)
            have HR_4 := Lib.hid (OwnV.below (w := w1) HR.out hb)
            have HB_4 := Lib.hid (HB_3.out.trans (hb.mono HB_3.out.size))
            clear hb
            have HRF := Lib.hid (show nats (dig (X % M)) = nats RR by rw [← HY.out.2.2, HRR.out])
            clear hk0c0_3
            clear hk0c1_3
            clear hk1c0_3
            clear hk1c1_3
            clear hk1f0_3
            clear hk1f1_3
            have hk1c0_4 := K1_4.out.c0
            have hk1c1_4 := K1_4.out.c1
            have hk1f0_4 := K1_4.out.f0
            have hk1f1_4 := K1_4.out.f1
            go_wp2
            have hr0 := K1_4.out.c0
            have hr1 := K1_4.out.c1
            exact bodyPost_ret (v := .tuple #[.agg #[.bool RS, .slice A9 (nats RM).length c9], .slice A2 LR c2]) (by simp [results, Try.results33, go_sem, hr0, hr1]) rfl (ownRD_close HB_4.out HO9.out (HRF.out ▸ HR_4.out) K1_3.out.lt K1_2.out.lt (by omega) AQ1.out AQ0.out)
          · have hz0 : LR = 0 := HZ.out rfl
            subst hz0
            go_wp2_with fail
            refine (l03Make_at true A1 _ c1 _ (signed true (X / M)) (by rw [val_dig]) _ HQ.out.row (dig_can _).1 HQ.out.cap.1 HQ.out.cap.2 HQ.out.nil_cap).mono ?_
            rintro e w3 ⟨v9, rfl, ho9, hb⟩
            rw [magZ_signed, ← HY.out.2.1, HRM.out] at ho9
            rw [← HY.out.1, HRS.out]
            obtain ⟨A9, c9, rfl⟩ := ho9.shape
            have AQ0 := Lib.hid (OwnV.apart HR.out ho9 (Nat.le_refl _))
            have AQ1 := Lib.hid (OwnV.apart' ho9 HR.out (Nat.le_refl _))
            have HO9 := Lib.hid ho9
            clear ho9
            have K0_4 := Lib.hid (K0_3.out.after hb)
            have K1_4 := Lib.hid (K1_3.out.after hb)
            have HR_4 := Lib.hid (OwnV.below (w := w1) HR.out hb)
            have HB_4 := Lib.hid (HB_3.out.trans (hb.mono HB_3.out.size))
            clear hb
            have HRF := Lib.hid (show nats (dig (X % M)) = nats RR by rw [← HY.out.2.2, HRR.out])
            clear hk0c0_3
            clear hk0c1_3
            clear hk1c0_3
            clear hk1c1_3
            clear hk1f0_3
            clear hk1f1_3
            have hk1c0_4 := K1_4.out.c0
            have hk1c1_4 := K1_4.out.c1
            have hk1f0_4 := K1_4.out.f0
            have hk1f1_4 := K1_4.out.f1
            go_wp2
            have hr0 := K1_4.out.c0
            have hr1 := K1_4.out.c1
            exact bodyPost_ret (v := .tuple #[.agg #[.bool RS, .slice A9 (nats RM).length c9], .slice A2 0 c2]) (by simp [results, Try.results33, go_sem, hr0, hr1]) rfl (ownRD_close HB_4.out HO9.out (HRF.out ▸ HR_4.out) K1_3.out.lt K1_2.out.lt (by omega) AQ1.out AQ0.out)
    · rw [Bool.not_eq_true] at hok2
      rw [hok2]
      have hno := f_no (s := s) (xs := xs) (ys := ys) (by unfold okD; simp [hok2])
      obtain rfl : RS = false := by rw [← HRS.out]; exact hno.1
      obtain rfl : RM = [] := by rw [← HRM.out]; exact hno.2.1
      obtain rfl : RR = [] := by rw [← HRR.out]; exact hno.2.2
      clear hno
      have hk1c0_2 := K1_2.out.c0
      have hk1c1_2 := K1_2.out.c1
      have hk1f0_2 := K1_2.out.f0
      have hk1f1_2 := K1_2.out.f1
      go_wp2
      have hr0 := K1_2.out.c0
      have hr1 := K1_2.out.c1
      exact bodyPost_ret (v := .tuple #[.agg #[.bool false, .slice none 0 0], .slice none 0 0]) (by simp [results, Try.results33, go_sem, hr0, hr1]) rfl (ownRD_close HB_2.out (OwnV.nil _ (w.heap.size + 1 + 1) _) (OwnV.nil _ (w.heap.size + 1 + 1) _) (Nat.lt_succ_self _) (Nat.lt_succ_self _) (by omega) (.inl rfl) (.inl rfl))
  · rw [Bool.not_eq_true] at hok
    rw [hok]
    have hno := f_no (s := s) (xs := xs) (ys := ys) (by unfold okD; simp [hok])
    obtain rfl : RS = false := by rw [← HRS.out]; exact hno.1
    obtain rfl : RM = [] := by rw [← HRM.out]; exact hno.2.1
    obtain rfl : RR = [] := by rw [← HRR.out]; exact hno.2.2
    clear hno
    have hk1c0_1 := K1_1.out.c0
    have hk1c1_1 := K1_1.out.c1
    have hk1f0_1 := K1_1.out.f0
    have hk1f1_1 := K1_1.out.f1
    go_wp2
    have hr0 := K1_1.out.c0
    have hr1 := K1_1.out.c1
    exact bodyPost_ret (v := .tuple #[.agg #[.bool false, .slice none 0 0], .slice none 0 0]) (by simp [results, Try.results33, go_sem, hr0, hr1]) rfl (ownRD_close HB_1.out (OwnV.nil _ (w.heap.size + 1 + 1) _) (OwnV.nil _ (w.heap.size + 1 + 1) _) (Nat.lt_succ_self _) (Nat.lt_succ_self _) (by omega) (.inl rfl) (.inl rfl))
set_option maxRecDepth 100000 in
set_option maxHeartbeats 4000000 in
theorem dividedBy_any (A B : Option Addr) (n c m d : Nat) (xs ys : List Int) (w : World) (hA : VRow w A n (ints xs)) (hB : VRow w B m (ints ys)) (hn : n ≤ maxLen) (hm : m ≤ maxLen) :
    Calls Try.prog 61 #[.slice A n c, .slice B m d] w (OwnR2 3 (nats (quoN xs ys)) (nats (remN xs ys)) w) := by
  have HA := Lib.hid hA
  have HB := Lib.hid hB
  have HN := Lib.hid hn
  have HM := Lib.hid hm
  clear hA hB hn hm
  go_enter Try.func61, Try.ntmps61
  go_wp2_with fail
  refine (natDiv_impl A B n c m d xs ys _ HA.out HB.out HN.out HM.out).mono ?_
  rintro e w1 ⟨v0, v1, rfl, ho0, ho1, ap0, ap1, hb⟩
  have HO0 := Lib.hid ho0
  have HO1 := Lib.hid ho1
  have AP0 := Lib.hid ap0
  have AP1 := Lib.hid ap1
  have HB1 := Lib.hid hb
  clear ho0 ho1 ap0 ap1 hb
  go_wp2
  go_ret2
  exact ⟨_, _, rfl, HO0.out, HO1.out, AP0.out, AP1.out, HB1.out⟩
set_option maxRecDepth 100000 in
set_option maxHeartbeats 4000000 in
theorem bigIntFloorDiv_impl (s : Bool) (A B : Option Addr) (n c m d : Nat) (xs ys : List Int) (w : World) (hA : VRow w A n (ints xs)) (hB : VRow w B m (ints ys)) (hn : n ≤ maxLen) (hm : m ≤ maxLen) :
    Calls Try.prog 35 #[.agg #[.bool s, .slice A n c], .slice B m d] w (OwnRD 3 (fS s xs ys) (nats (fM s xs ys)) (nats (fR s xs ys)) w) := by
  obtain ⟨RS, hRS⟩ : ∃ b, fS s xs ys = b := ⟨_, rfl⟩
  obtain ⟨RM, hRM⟩ : ∃ l, fM s xs ys = l := ⟨_, rfl⟩
  obtain ⟨RR, hRR⟩ : ∃ l, fR s xs ys = l := ⟨_, rfl⟩
  rw [hRS, hRM, hRR]
  have HRS := Lib.hid hRS
  have HRM := Lib.hid hRM
  have HRR := Lib.hid hRR
  clear hRS hRM hRR
  have hm63 : m ≤ 9223372036854775807 := by unfold maxLen at hm; omega
  have HA := Lib.hid hA
  have HB := Lib.hid hB
  have HN := Lib.hid hn
  have HM := Lib.hid hm
  have HL := Lib.hid (show xs.length = n by simpa [ints] using hA.1)
  have HL2 := Lib.hid (show ys.length = m by simpa [ints] using hB.1)
  clear hA hB hn hm
  go_enter Try.func35, Try.ntmps35
  have HB_0 := Lib.hid (((Below.refl w.heap.size w).alloc (Nat.le_refl _) (.cells #[.bool s, .slice A n c] 27)).alloc (by simp) (.cells #[.bool false, .slice none 0 0] 27))
  have K0_0 := Lib.hid ((Held.new_at w (w.heap.size) (.bool s) (.slice A n c) 27 (by first | rfl | simp)).alloc (.cells #[.bool false, .slice none 0 0] 27))
  have K1_0 := Lib.hid (Held.new_at (w.alloc (.cells #[.bool s, .slice A n c] 27)) (w.heap.size + 1) (.bool false) (.slice none 0 0) 27 (by first | rfl | simp))
  have hne01 : w.heap.size ≠ w.heap.size + 1 := by omega
  have hne10 : w.heap.size + 1 ≠ w.heap.size := by omega
  go_wp2_with fail
  refine (signedOf_any s A n c _).mono ?_
  rintro e w00 ⟨rfl, hb⟩
  have K0_1 := Lib.hid (K0_0.out.after hb)
  have K1_1 := Lib.hid (K1_0.out.after hb)
  have HB_1 := Lib.hid (HB_0.out.trans (hb.mono HB_0.out.size))
  clear hb
  have K0_2 := Lib.hid (K0_1.out.alloc (.cells #[.slice A n c, .bool s] 49))
  have K1_2 := Lib.hid (K1_1.out.alloc (.cells #[.slice A n c, .bool s] 49))
  have K2_2 := Lib.hid (Held.new w00 (.slice A n c) (.bool s) 49)
  have hne02 : w.heap.size ≠ w00.heap.size := by have := K0_1.out.lt; omega
  have hne20 : w00.heap.size ≠ w.heap.size := by have := K0_1.out.lt; omega
  have hne12 : w.heap.size + 1 ≠ w00.heap.size := by have := K1_1.out.lt; omega
  have hne21 : w00.heap.size ≠ w.heap.size + 1 := by have := K1_1.out.lt; omega
  have HB_2 := Lib.hid (HB_1.out.alloc HB_1.out.size (.cells #[.slice A n c, .bool s] 49))
  go_wp2_with fail
  refine (isValid_any s A n c xs _ (HA.out.below HB_2.out (Nat.le_refl _)) HN.out).mono ?_
  rintro e w0 ⟨rfl, hb⟩
  have K0_3 := Lib.hid (K0_2.out.after hb)
  have K1_3 := Lib.hid (K1_2.out.after hb)
  have K2_3 := Lib.hid (K2_2.out.after hb)
  have HB_3 := Lib.hid (HB_2.out.trans (hb.mono HB_2.out.size))
  clear hb
  by_cases hok : okB s xs = true
  · rw [hok]
    have hk2c0_3 := K2_3.out.c0
    have hk2c1_3 := K2_3.out.c1
    have hk1c0_3 := K1_3.out.c0
    have hk1c1_3 := K1_3.out.c1
    have hk1f0_3 := K1_3.out.f0
    have hk1f1_3 := K1_3.out.f1
    go_wp2_with fail
    refine (dividedBy_any A B n c m d xs ys _ (HA.out.below HB_3.out (Nat.le_refl _)) (HB.out.below HB_3.out (Nat.le_refl _)) HN.out HM.out).mono ?_
    rintro e w1 ⟨v0, v1, rfl, ho0, ho1, ap0, ap1, hb⟩
    obtain ⟨A1, c1, rfl⟩ := ho0.shape
    obtain ⟨A2, c2, rfl⟩ := ho1.shape
    have HQ := Lib.hid ho0
    clear ho0
    have HR := Lib.hid ho1
    clear ho1
    have AP0 := Lib.hid ap0
    clear ap0
    have AP1 := Lib.hid ap1
    clear ap1
    have K0_4 := Lib.hid (K0_3.out.after hb)
    have K1_4 := Lib.hid (K1_3.out.after hb)
    have K2_4 := Lib.hid (K2_3.out.after hb)
    have HB_4 := Lib.hid (HB_3.out.trans (hb.mono HB_3.out.size))
    clear hb
    clear hk2c0_3
    clear hk2c1_3
    clear hk1c0_3
    clear hk1c1_3
    clear hk1f0_3
    clear hk1f1_3
    have hk2c0_4 := K2_4.out.c0
    have hk2c1_4 := K2_4.out.c1
    have hk1c0_4 := K1_4.out.c0
    have hk1c1_4 := K1_4.out.c1
    have hk1f0_4 := K1_4.out.f0
    have hk1f1_4 := K1_4.out.f1
    by_cases hokD : okD s xs ys = true
    · obtain ⟨_, hok2, _, hMp⟩ := okD_pos hokD
      have HY := Lib.hid (f_yes hokD)
      have hdy := divN_yes (okB_ok hok) hok2
      rw [if_pos (by omega)] at hdy
      have hXl := okB_val hok
      obtain ⟨_, hcany, hl60y⟩ := okI_nats hok2
      have HCy := Lib.hid hcany
      have HOK2 := Lib.hid hok2
      clear hcany hl60y hok hok2 hokD
      obtain ⟨X, hX⟩ : ∃ X, val (toN xs) = X := ⟨_, rfl⟩
      obtain ⟨M, hM⟩ : ∃ M, val (toN ys) = M := ⟨_, rfl⟩
      rw [hX, hM] at HY hdy
      rw [hM] at hMp
      rw [hX] at hXl
      rw [hdy.1] at HQ AP0 AP1 ⊢
      rw [hdy.2] at HR AP0 AP1 ⊢
      have HX := Lib.hid hX
      have HMv := Lib.hid hM
      have HMp := Lib.hid hMp
      have HXl := Lib.hid hXl
      clear hX hM hMp hXl hdy
      have hrl : (nats (dig (X % M))).length ≤ 9223372036854775807 := by have := HR.out.cap; unfold maxLen at this; omega
      have hql : (nats (dig (X / M))).length ≤ 9223372036854775807 := by have := HQ.out.cap; unfold maxLen at this; omega
      by_cases hcs : s = true ∧ X % M ≠ 0
      · obtain ⟨rfl, hr⟩ := hcs
        have hrp : 0 < (nats (dig (X % M))).length := by rw [nats_len]; exact List.length_pos_iff.mpr (dig_ne (by omega))
        have eq : qD true X M = X / M + 1 := if_pos ⟨rfl, hr⟩
        have er : rD true X M = M - X % M := if_pos ⟨rfl, hr⟩
        rw [eq, er] at HY
        clear eq er
        obtain ⟨LR, hLR⟩ : ∃ k, (nats (dig (X % M))).length = k := ⟨_, rfl⟩
        have HLR := Lib.hid hLR
        rw [hLR] at hrp hrl HR AP0 AP1 ⊢
        clear hLR hr
        have hQok := okI_of_nats (dig_can (X / M)) (dig_len (Nat.lt_of_le_of_lt (Nat.div_le_self _ _) HXl.out))
        have hRok := okI_of_nats (dig_can (X % M)) (dig_len (Nat.lt_of_le_of_lt (Nat.mod_le _ _) HXl.out))
        have hone := okI_of_nats (dig_can (1 : Int).toNat) (Nat.le_trans (dig_len (n := (1 : Int).toNat) (k := 1) (by decide)) (by decide))
        have HAD := Lib.hid (show nats (addN ((dig (X / M)).map fun d : Nat => (d : Int)) ((dig (1 : Int).toNat).map fun d : Nat => (d : Int))) = nats RM by rw [addN_yes hQok hone, toN_nats, toN_nats, val_dig, val_dig, ← HRM.out, HY.out.2.1]; rfl)
        have HSB := Lib.hid (show nats (subN ys ((dig (X % M)).map fun d : Nat => (d : Int))) = nats RR by rw [subN_yes HOK2.out hRok, toN_nats, val_dig, HMv.out, ← HRR.out, HY.out.2.2])
        have HSG := Lib.hid (show (true && decide (0 < (nats RM).length)) = RS by rw [nats_len, ← HRM.out, HY.out.2.1, ← HRS.out, HY.out.1, sgZ_signed])
        have hRM60 : (nats RM).length ≤ 60 := by rw [nats_len, ← HRM.out]; exact fM_len _ _ _
        clear hQok hRok hone
        go_wp2_with fail
        refine (natOf_impl 1 _ (by omega)).mono ?_
        rintro e w2 ⟨v, rfl, ho, hb⟩
        obtain ⟨A3, c3, rfl⟩ := ho.shape
        have HS3 := Lib.hid ho
        clear ho
        have K0_5 := Lib.hid (K0_4.out.after hb)
        have K1_5 := Lib.hid (K1_4.out.after hb)
        have K2_5 := Lib.hid (K2_4.out.after hb)
        have HQ_5 := Lib.hid (OwnV.below (w := w1) HQ.out hb)
        have HR_5 := Lib.hid (OwnV.below (w := w1) HR.out hb)
        have HB_5 := Lib.hid (HB_4.out.trans (hb.mono HB_4.out.size))
        clear hb
        clear hk2c0_4
        clear hk2c1_4
        clear hk1c0_4
        clear hk1c1_4
        clear hk1f0_4
        clear hk1f1_4
        have hk2c0_5 := K2_5.out.c0
        have hk2c1_5 := K2_5.out.c1
        have hk1c0_5 := K1_5.out.c0
        have hk1c1_5 := K1_5.out.c1
        have hk1f0_5 := K1_5.out.f0
        have hk1f1_5 := K1_5.out.f1
        go_wp2_with fail
        refine (natAdd_impl A1 A3 _ c1 _ c3 _ _ _ HQ_5.out.row HS3.out.row (by have := HQ_5.out.cap; omega) (by have := HS3.out.cap; omega)).mono ?_
        rintro e w3 ⟨v, rfl, ho, hb⟩
        rw [HAD.out] at ho
        obtain ⟨A9, c9, rfl⟩ := ho.shape
        have HO9 := Lib.hid ho
        clear ho
        have K0_6 := Lib.hid (K0_5.out.after hb)
        have K1_6 := Lib.hid (K1_5.out.after hb)
        have K2_6 := Lib.hid (K2_5.out.after hb)
        have HR_6 := Lib.hid (OwnV.below (w := w2) HR_5.out hb)
        have HB_6 := Lib.hid (HB_5.out.trans (hb.mono HB_5.out.size))
        clear hb
        clear hk2c0_5
        clear hk2c1_5
        clear hk1c0_5
        clear hk1c1_5
        clear hk1f0_5
        clear hk1f1_5
        have hk2c0_6 := K2_6.out.c0
        have hk2c1_6 := K2_6.out.c1
        have hk1c0_6 := K1_6.out.c0
        have hk1c1_6 := K1_6.out.c1
        have hk1f0_6 := K1_6.out.f0
        have hk1f1_6 := K1_6.out.f1
        go_wp2_with fail
        refine (natSub_impl B A2 m d LR c2 ys _ _ (HB.out.below HB_6.out (Nat.le_refl _)) HR_6.out.row HM.out (by have := HR_6.out.cap; omega)).mono ?_
        rintro e w4 ⟨v, rfl, ho, hb⟩
        rw [HSB.out] at ho
        obtain ⟨A4, c4, rfl⟩ := ho.shape
        have AQ0 := Lib.hid (OwnV.apart HO9.out ho (Nat.le_refl _))
        have AQ1 := Lib.hid (OwnV.apart' ho HO9.out (Nat.le_refl _))
        have HO4 := Lib.hid ho
        clear ho
        have K0_7 := Lib.hid (K0_6.out.after hb)
        have K1_7 := Lib.hid (K1_6.out.after hb)
        have K2_7 := Lib.hid (K2_6.out.after hb)
        have HO9_7 := Lib.hid (OwnV.below (w := w3) HO9.out hb)
        have HB_7 := Lib.hid (HB_6.out.trans (hb.mono HB_6.out.size))
        clear hb
        clear hk2c0_6
        clear hk2c1_6
        clear hk1c0_6
        clear hk1c1_6
        clear hk1f0_6
        clear hk1f1_6
        have hk2c0_7 := K2_7.out.c0
        have hk2c1_7 := K2_7.out.c1
        have hk1c0_7 := K1_7.out.c0
        have hk1c1_7 := K1_7.out.c1
        have hk1f0_7 := K1_7.out.f0
        have hk1f1_7 := K1_7.out.f1
        go_wp2_with fail
        refine (bigIntWith_any true A9 _ c9 _ (by omega)).mono ?_
        rintro e w5 ⟨rfl, hb⟩
        rw [HSG.out]
        have K0_8 := Lib.hid (K0_7.out.after hb)
        have K1_8 := Lib.hid (K1_7.out.after hb)
        have K2_8 := Lib.hid (K2_7.out.after hb)
        have HO9_8 := Lib.hid (OwnV.below (w := w4) HO9_7.out hb)
        have HO4_8 := Lib.hid (OwnV.below (w := w4) HO4.out hb)
        have HB_8 := Lib.hid (HB_7.out.trans (hb.mono HB_7.out.size))
        clear hb
        clear hk2c0_7
        clear hk2c1_7
        clear hk1c0_7
        clear hk1c1_7
        clear hk1f0_7
        clear hk1f1_7
        have hk1c0_8 := K1_8.out.c0
        have hk1c1_8 := K1_8.out.c1
        have hk1f0_8 := K1_8.out.f0
        have hk1f1_8 := K1_8.out.f1
        go_wp2
        have hr0 := K1_8.out.c0
        have hr1 := K1_8.out.c1
        exact bodyPost_ret (v := .tuple #[.agg #[.bool RS, .slice A9 (nats RM).length c9], .slice A4 (nats RR).length c4]) (by simp [results, Try.results35, go_sem, hr0, hr1]) rfl (ownRD_close HB_8.out HO9_8.out HO4_8.out K1_5.out.lt K1_6.out.lt (by omega) AQ0.out AQ1.out)
      · have eq : qD s X M = X / M := if_neg hcs
        have er : rD s X M = X % M := if_neg hcs
        rw [eq, er] at HY
        clear eq er
        have hz : s = true → (nats (dig (X % M))).length = 0 := by intro h; rw [nats_len, List.length_eq_zero_iff, dig_nil_iff]; exact Classical.byContradiction fun h2 => hcs ⟨h, h2⟩
        obtain ⟨LR, hLR⟩ : ∃ k, (nats (dig (X % M))).length = k := ⟨_, rfl⟩
        have HLR := Lib.hid hLR
        rw [hLR] at hz hrl HR AP0 AP1 ⊢
        clear hLR hcs
        have HZ := Lib.hid hz
        clear hz
        have HMG := Lib.hid (show dig (X / M) = RM by rw [← HRM.out, HY.out.2.1, capd_of (Nat.lt_of_le_of_lt (Nat.div_le_self _ _) HXl.out)])
        have HSG := Lib.hid (show (s && decide (0 < (nats RM).length)) = RS by rw [nats_len, ← HRM.out, HY.out.2.1, ← HRS.out, HY.out.1, sgZ_signed])
        have HRF := Lib.hid (show nats (dig (X % M)) = nats RR by rw [← HY.out.2.2, HRR.out])
        rw [HMG.out] at hql HQ AP0 AP1 ⊢
        cases s
        · go_wp2_with fail
          refine (bigIntWith_any false A1 _ c1 _ (by omega)).mono ?_
          rintro e w5 ⟨rfl, hb⟩
          rw [HSG.out]
          have K0_5 := Lib.hid (K0_4.out.after hb)
          have K1_5 := Lib.hid (K1_4.out.after hb)
          have K2_5 := Lib.hid (K2_4.out.after hb)
          have HQ_5 := Lib.hid (OwnV.below (w := w1) HQ.out hb)
          have HR_5 := Lib.hid (OwnV.below (w := w1) HR.out hb)
          have HB_5 := Lib.hid (HB_4.out.trans (hb.mono HB_4.out.size))
          clear hb
          clear hk2c0_4
          clear hk2c1_4
          clear hk1c0_4
          clear hk1c1_4
          clear hk1f0_4
          clear hk1f1_4
          have hk1c0_5 := K1_5.out.c0
          have hk1c1_5 := K1_5.out.c1
          have hk1f0_5 := K1_5.out.f0
          have hk1f1_5 := K1_5.out.f1
          go_wp2
          have hr0 := K1_5.out.c0
          have hr1 := K1_5.out.c1
          exact bodyPost_ret (v := .tuple #[.agg #[.bool RS, .slice A1 (nats RM).length c1], .slice A2 LR c2]) (by simp [results, Try.results35, go_sem, hr0, hr1]) rfl (ownRD_close HB_5.out HQ_5.out (HRF.out ▸ HR_5.out) K1_3.out.lt K1_3.out.lt (by omega) AP0.out AP1.out)
        · have hz0 : LR = 0 := HZ.out rfl
          subst hz0
          go_wp2_with fail
          refine (bigIntWith_any true A1 _ c1 _ (by omega)).mono ?_
          rintro e w5 ⟨rfl, hb⟩
          rw [HSG.out]
          have K0_5 := Lib.hid (K0_4.out.after hb)
          have K1_5 := Lib.hid (K1_4.out.after hb)
          have K2_5 := Lib.hid (K2_4.out.after hb)
          have HQ_5 := Lib.hid (OwnV.below (w := w1) HQ.out hb)
          have HR_5 := Lib.hid (OwnV.below (w := w1) HR.out hb)
          have HB_5 := Lib.hid (HB_4.out.trans (hb.mono HB_4.out.size))
          clear hb
          clear hk2c0_4
          clear hk2c1_4
          clear hk1c0_4
          clear hk1c1_4
          clear hk1f0_4
          clear hk1f1_4
          have hk1c0_5 := K1_5.out.c0
          have hk1c1_5 := K1_5.out.c1
          have hk1f0_5 := K1_5.out.f0
          have hk1f1_5 := K1_5.out.f1
          go_wp2
          have hr0 := K1_5.out.c0
          have hr1 := K1_5.out.c1
          exact bodyPost_ret (v := .tuple #[.agg #[.bool RS, .slice A1 (nats RM).length c1], .slice A2 0 c2]) (by simp [results, Try.results35, go_sem, hr0, hr1]) rfl (ownRD_close HB_5.out HQ_5.out (HRF.out ▸ HR_5.out) K1_3.out.lt K1_3.out.lt (by omega) AP0.out AP1.out)
    · rw [Bool.not_eq_true] at hokD
      have hno := f_no hokD
      obtain rfl : RS = false := by rw [← HRS.out]; exact hno.1
      obtain rfl : RM = [] := by rw [← HRM.out]; exact hno.2.1
      obtain rfl : RR = [] := by rw [← HRR.out]; exact hno.2.2
      clear hno
      have hq0 : quoN xs ys = [] ∧ remN xs ys = [] := f_zero hok hokD
      rw [hq0.1] at HQ AP0 AP1 ⊢
      rw [hq0.2] at HR AP0 AP1 ⊢
      clear hq0 hok hokD
      have HSG := Lib.hid (show (s && decide (0 < (nats []).length)) = false by cases s <;> rfl)
      have hn0 : (nats []).length = 0 := rfl
      have HN0 := Lib.hid hn0
      rw [hn0] at HQ HR AP0 AP1 HSG ⊢
      clear hn0
      cases s
      · go_wp2_with fail
        refine (bigIntWith_any false A1 0 c1 _ (by omega)).mono ?_
        rintro e w5 ⟨rfl, hb⟩
        rw [HSG.out]
        have K0_5 := Lib.hid (K0_4.out.after hb)
        have K1_5 := Lib.hid (K1_4.out.after hb)
        have K2_5 := Lib.hid (K2_4.out.after hb)
        have HQ_5 := Lib.hid (OwnV.below (w := w1) HQ.out hb)
        have HR_5 := Lib.hid (OwnV.below (w := w1) HR.out hb)
        have HB_5 := Lib.hid (HB_4.out.trans (hb.mono HB_4.out.size))
        clear hb
        clear hk2c0_4
        clear hk2c1_4
        clear hk1c0_4
        clear hk1c1_4
        clear hk1f0_4
        clear hk1f1_4
        have hk1c0_5 := K1_5.out.c0
        have hk1c1_5 := K1_5.out.c1
        have hk1f0_5 := K1_5.out.f0
        have hk1f1_5 := K1_5.out.f1
        go_wp2
        have hr0 := K1_5.out.c0
        have hr1 := K1_5.out.c1
        exact bodyPost_ret (v := .tuple #[.agg #[.bool false, .slice A1 0 c1], .slice A2 0 c2]) (by simp [results, Try.results35, go_sem, hr0, hr1]) rfl (ownRD_close HB_5.out HQ_5.out HR_5.out K1_3.out.lt K1_3.out.lt (by omega) AP0.out AP1.out)
      · go_wp2_with fail
        refine (bigIntWith_any true A1 0 c1 _ (by omega)).mono ?_
        rintro e w5 ⟨rfl, hb⟩
        rw [HSG.out]
        have K0_5 := Lib.hid (K0_4.out.after hb)
        have K1_5 := Lib.hid (K1_4.out.after hb)
        have K2_5 := Lib.hid (K2_4.out.after hb)
        have HQ_5 := Lib.hid (OwnV.below (w := w1) HQ.out hb)
        have HR_5 := Lib.hid (OwnV.below (w := w1) HR.out hb)
        have HB_5 := Lib.hid (HB_4.out.trans (hb.mono HB_4.out.size))
        clear hb
        clear hk2c0_4
        clear hk2c1_4
        clear hk1c0_4
        clear hk1c1_4
        clear hk1f0_4
        clear hk1f1_4
        have hk1c0_5 := K1_5.out.c0
        have hk1c1_5 := K1_5.out.c1
        have hk1f0_5 := K1_5.out.f0
        have hk1f1_5 := K1_5.out.f1
        go_wp2
        have hr0 := K1_5.out.c0
        have hr1 := K1_5.out.c1
        exact bodyPost_ret (v := .tuple #[.agg #[.bool false, .slice A1 0 c1], .slice A2 0 c2]) (by simp [results, Try.results35, go_sem, hr0, hr1]) rfl (ownRD_close HB_5.out HQ_5.out HR_5.out K1_3.out.lt K1_3.out.lt (by omega) AP0.out AP1.out)
  · rw [Bool.not_eq_true] at hok
    rw [hok]
    have hno := f_no (s := s) (xs := xs) (ys := ys) (by unfold okD; simp [hok])
    obtain rfl : RS = false := by rw [← HRS.out]; exact hno.1
    obtain rfl : RM = [] := by rw [← HRM.out]; exact hno.2.1
    obtain rfl : RR = [] := by rw [← HRR.out]; exact hno.2.2
    clear hno
    have hk1c0_3 := K1_3.out.c0
    have hk1c1_3 := K1_3.out.c1
    have hk1f0_3 := K1_3.out.f0
    have hk1f1_3 := K1_3.out.f1
    go_wp2
    have hr0 := K1_3.out.c0
    have hr1 := K1_3.out.c1
    exact bodyPost_ret (v := .tuple #[.agg #[.bool false, .slice none 0 0], .slice none 0 0]) (by simp [results, Try.results35, go_sem, hr0, hr1]) rfl (ownRD_close HB_3.out (OwnV.nil _ (w.heap.size + 1 + 1) _) (OwnV.nil _ (w.heap.size + 1 + 1) _) (Nat.lt_succ_self _) (Nat.lt_succ_self _) (by omega) (.inl rfl) (.inl rfl))
end Go.Proofs.Ythijfjjeklmemaa
