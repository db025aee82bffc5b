/- Fractions: the order, in the model. Conditions: none. -/
import Derived.Test.YtbblfledkmcfmaaProg
import Derived.Test.YtbblfledkmcfmaaRat3b
namespace Go.Proofs.Ytbblfledkmcfmaa
open Go.RowKit Nt
set_option linter.unusedVariables false

set_option maxRecDepth 100000 in
set_option maxHeartbeats 4000000 in
theorem l04Cmp_at (s : Bool) (A : Option Addr) (n c : Nat) (ds : List Nat) (B : Option Addr) (m d : Nat) (bs : List Nat) (t : Bool) (C : Option Addr) (p q : Nat) (es : List Nat) (E : Option Addr) (k l : Nat) (gs : List Nat) (Q : Int) (hQ : cmpZ (signed s (val ds) * (val gs : Int)) (signed t (val es) * (val bs : Int)) = Q) (w : World) (hA : Arg w A n c (nats ds)) (hB : Arg w B m d (nats bs)) (hv : Valid ds bs) (hC : Arg w C p q (nats es)) (hE : Arg w E k l (nats gs)) (hv2 : Valid es gs) :
    Calls Try.prog 75 #[.agg #[.bool s, .slice A n c, .slice B m d], .agg #[.bool t, .slice C p q, .slice E k l]] w fun e w' => e = .returned (.int .i64 Q) ∧ Below w.heap.size w w' := by
  have hn : n ≤ 24 := by have := hA.nlen; have := hv.2.2.1; omega
  have hm : m ≤ 24 := by have := hB.nlen; have := hv.2.2.2.1; omega
  have hp : p ≤ 24 := by have := hC.nlen; have := hv2.2.2.1; omega
  have hk : k ≤ 24 := by have := hE.nlen; have := hv2.2.2.2.1; omega
  obtain ⟨z1, hz1⟩ : ∃ y9, signed s (val ds) * (val gs : Int) = y9 := ⟨_, rfl⟩
  obtain ⟨z2, hz2⟩ : ∃ y9, signed t (val es) * (val bs : Int) = y9 := ⟨_, rfl⟩
  have HB1 := Lib.hid (show z1.natAbs < 1000000000 ^ 60 by rw [← hz1]; exact one_small hv.1 hv.2.2.1 hv2.2.1 hv2.2.2.2.1)
  have HB2 := Lib.hid (show z2.natAbs < 1000000000 ^ 60 by rw [← hz2]; exact one_small hv2.1 hv2.2.2.1 hv.2.1 hv.2.2.2.1)
  rw [hz1, hz2] at hQ
  have HZ1 := Lib.hid (show signed s (val (dig (val ds * val gs))) = z1 by rw [val_dig, signed_z]; exact hz1)
  have HZ2 := Lib.hid (show signed t (val (dig (val es * val bs))) = z2 by rw [val_dig, signed_z]; exact hz2)
  obtain ⟨g1, hg1⟩ : ∃ y9, sgZ z1 = y9 := ⟨_, rfl⟩
  obtain ⟨g2, hg2⟩ : ∃ y9, sgZ z2 = y9 := ⟨_, rfl⟩
  obtain ⟨M1, hM1⟩ : ∃ y9, magZ z1 = y9 := ⟨_, rfl⟩
  obtain ⟨M2, hM2⟩ : ∃ y9, magZ z2 = y9 := ⟨_, rfl⟩
  have HQ := Lib.hid (show cmpS g1 g2 (val M1) (val M2) = Q by rw [← hg1, ← hg2, ← hM1, ← hM2, cmp_small HB1.out HB2.out]; exact hQ)
  have HCM1 := Lib.hid (hM1 ▸ magZ_can z1)
  have HCM2 := Lib.hid (hM2 ▸ magZ_can z2)
  have HLM1 := Lib.hid (show (nats M1).length ≤ 60 by rw [nats_len, ← hM1]; exact capd_len _)
  have HLM2 := Lib.hid (show (nats M2).length ≤ 60 by rw [nats_len, ← hM2]; exact capd_len _)
  clear hQ hz1 hz2
  have Hg1 := Lib.hid hg1
  have Hg2 := Lib.hid hg2
  have HM1 := Lib.hid hM1
  have HM2 := Lib.hid hM2
  clear hg1 hg2 hM1 hM2
  have HA := Lib.hid hA
  have HB := Lib.hid hB
  have HC := Lib.hid hC
  have HE := Lib.hid hE
  have Hv := Lib.hid hv
  have Hv2 := Lib.hid hv2
  clear hA hB hC hE hv hv2
  go_enter Try.func75, Try.ntmps75
  have HB_0 := Lib.hid (((Below.refl w.heap.size w).alloc (Nat.le_refl _) (.cells #[.bool s, .slice A n c, .slice B m d] 31)).alloc (by simp) (.cells #[.bool t, .slice C p q, .slice E k l] 31))
  have K_a_0 := Lib.hid ((HeldL.new_at w (w.heap.size) [.bool s, .slice A n c, .slice B m d] 31 (by first | rfl | simp)).alloc (.cells #[.bool t, .slice C p q, .slice E k l] 31))
  have K_b_0 := Lib.hid (HeldL.new_at (w.alloc (.cells #[.bool s, .slice A n c, .slice B m d] 31)) (w.heap.size + 1) [.bool t, .slice C p q, .slice E k l] 31 (by first | rfl | simp))
  have hne_a_b : w.heap.size ≠ w.heap.size + 1 := by omega
  have hne_b_a : w.heap.size + 1 ≠ w.heap.size := by omega
  go_wp2
  go_region_held3 (fun w' => w'.cell? ⟨w.heap.size, 0, none⟩ = some (.bool s) ∧ w'.cell? ⟨w.heap.size, 1, none⟩ = some (.slice A n c) ∧ w'.cell? ⟨w.heap.size, 2, none⟩ = some (.slice B m d) ∧ w'.cell? ⟨w.heap.size + 1, 0, none⟩ = some (.bool t) ∧ w'.cell? ⟨w.heap.size + 1, 1, none⟩ = some (.slice C p q) ∧ w'.cell? ⟨w.heap.size + 1, 2, none⟩ = some (.slice E k l)) (go_keep)
    (first
      | (go_at_call_of 73 (Value.slice A n c)
         refine (l02Mul_any A E n c k l ds gs _ (HA.out.below HB_0.out.drew (Nat.le_refl _)).1 (HE.out.below HB_0.out.drew (Nat.le_refl _)).1 Hv.out.1.1 Hv2.out.2.1.1 ?_).mono ?_
         omega
         rintro e wm1 ⟨vm1, rfl, ho, hb⟩
         obtain ⟨Am1, cm1, rfl⟩ := ho.shape
         have HOm1 := Lib.hid ho
         clear ho
         have K_a_1 := Lib.hid (K_a_0.out.drew.after hb)
         have K_b_1 := Lib.hid (K_b_0.out.drew.after hb)
         have HB_1 := Lib.hid (HB_0.out.drew.trans (hb.mono HB_0.out.drew.size))
         clear hb
         have hk_a_0_1 := K_a_1.out.cell 0 _ rfl
         have hk_a_1_1 := K_a_1.out.cell 1 _ rfl
         have hk_a_2_1 := K_a_1.out.cell 2 _ rfl
         have hk_b_0_1 := K_b_1.out.cell 0 _ rfl
         have hk_b_1_1 := K_b_1.out.cell 1 _ rfl
         have hk_b_2_1 := K_b_1.out.cell 2 _ rfl)
      | (go_at_call_of 88 (Value.bool s)
         refine (l03Make_let s Am1 _ cm1 (dig (val ds * val gs)) z1 g1 M1 HZ1.out Hg1.out HM1.out _ HOm1.out.arg (dig_can _).1).mono ?_
         rintro e wk1 ⟨v1, rfl, ho, hb⟩
         obtain ⟨A1, c1, rfl⟩ := ho.shape
         have HO1 := Lib.hid ho
         clear ho
         have K_a_2 := Lib.hid (K_a_1.out.after hb)
         have K_b_2 := Lib.hid (K_b_1.out.after hb)
         have H_Om1_2 := Lib.hid (OwnV.below (w := wm1) HOm1.out hb)
         have HB_2 := Lib.hid (HB_1.out.trans (hb.mono HB_1.out.size))
         clear hb
         have hk_a_0_2 := K_a_2.out.cell 0 _ rfl
         have hk_a_1_2 := K_a_2.out.cell 1 _ rfl
         have hk_a_2_2 := K_a_2.out.cell 2 _ rfl
         have hk_b_0_2 := K_b_2.out.cell 0 _ rfl
         have hk_b_1_2 := K_b_2.out.cell 1 _ rfl
         have hk_b_2_2 := K_b_2.out.cell 2 _ rfl)
      | (go_at_call_of 73 (Value.slice C p q)
         refine (l02Mul_any C B p q m d es bs _ (HC.out.below HB_2.out (Nat.le_refl _)).1 (HB.out.below HB_2.out (Nat.le_refl _)).1 Hv2.out.1.1 Hv.out.2.1.1 ?_).mono ?_
         omega
         rintro e wm2 ⟨vm2, rfl, ho, hb⟩
         obtain ⟨Am2, cm2, rfl⟩ := ho.shape
         have HOm2 := Lib.hid ho
         clear ho
         have K_a_3 := Lib.hid (K_a_2.out.after hb)
         have K_b_3 := Lib.hid (K_b_2.out.after hb)
         have H_Om1_3 := Lib.hid (OwnV.below (w := wk1) H_Om1_2.out hb)
         have H_O1_3 := Lib.hid (OwnV.below (w := wk1) HO1.out hb)
         have HB_3 := Lib.hid (HB_2.out.trans (hb.mono HB_2.out.size))
         clear hb
         have hk_a_0_3 := K_a_3.out.cell 0 _ rfl
         have hk_a_1_3 := K_a_3.out.cell 1 _ rfl
         have hk_a_2_3 := K_a_3.out.cell 2 _ rfl
         have hk_b_0_3 := K_b_3.out.cell 0 _ rfl
         have hk_b_1_3 := K_b_3.out.cell 1 _ rfl
         have hk_b_2_3 := K_b_3.out.cell 2 _ rfl)
      | (go_at_call_of 88 (Value.bool t)
         refine (l03Make_let t Am2 _ cm2 (dig (val es * val bs)) z2 g2 M2 HZ2.out Hg2.out HM2.out _ HOm2.out.arg (dig_can _).1).mono ?_
         rintro e wk2 ⟨v2, rfl, ho, hb⟩
         obtain ⟨A2, c2, rfl⟩ := ho.shape
         have HO2 := Lib.hid ho
         clear ho
         have K_a_4 := Lib.hid (K_a_3.out.after hb)
         have K_b_4 := Lib.hid (K_b_3.out.after hb)
         have H_Om1_4 := Lib.hid (OwnV.below (w := wm2) H_Om1_3.out hb)
         have H_O1_4 := Lib.hid (OwnV.below (w := wm2) H_O1_3.out hb)
         have H_Om2_4 := Lib.hid (OwnV.below (w := wm2) HOm2.out hb)
         have HB_4 := Lib.hid (HB_3.out.trans (hb.mono HB_3.out.size))
         clear hb
         have hk_a_0_4 := K_a_4.out.cell 0 _ rfl
         have hk_a_1_4 := K_a_4.out.cell 1 _ rfl
         have hk_a_2_4 := K_a_4.out.cell 2 _ rfl
         have hk_b_0_4 := K_b_4.out.cell 0 _ rfl
         have hk_b_1_4 := K_b_4.out.cell 1 _ rfl
         have hk_b_2_4 := K_b_4.out.cell 2 _ rfl)
      | (go_at_call 103
         refine (l03Cmp_any g1 g2 A1 A2 _ c1 _ c2 M1 M2 _ H_O1_4.out.row HO2.out.row HCM1.out HCM2.out HLM1.out HLM2.out).mono ?_
         rintro e w9 ⟨rfl, hb⟩
         rw [HQ.out]
         have K_a_5 := Lib.hid (K_a_4.out.after hb)
         have K_b_5 := Lib.hid (K_b_4.out.after hb)
         have H_Om1_5 := Lib.hid (OwnV.below (w := wk2) H_Om1_4.out hb)
         have H_O1_5 := Lib.hid (OwnV.below (w := wk2) H_O1_4.out hb)
         have H_Om2_5 := Lib.hid (OwnV.below (w := wk2) H_Om2_4.out hb)
         have H_O2_5 := Lib.hid (OwnV.below (w := wk2) HO2.out hb)
         have HB_5 := Lib.hid (HB_4.out.trans (hb.mono HB_4.out.size))
         clear hb
         have hk_a_0_5 := K_a_5.out.cell 0 _ rfl
         have hk_a_1_5 := K_a_5.out.cell 1 _ rfl
         have hk_a_2_5 := K_a_5.out.cell 2 _ rfl
         have hk_b_0_5 := K_b_5.out.cell 0 _ rfl
         have hk_b_1_5 := K_b_5.out.cell 1 _ rfl
         have hk_b_2_5 := K_b_5.out.cell 2 _ rfl))
  go_wp2
  go_ret
  exact ⟨rfl, HB_5.out⟩
set_option maxRecDepth 100000 in
set_option maxHeartbeats 4000000 in
theorem ratCmp_spec (s : Bool) (A : Option Addr) (n c : Nat) (xs : List Int) (B : Option Addr) (m d : Nat) (ys : List Int) (t : Bool) (C : Option Addr) (p q : Nat) (us : List Int) (E : Option Addr) (k l : Nat) (vs : List Int) (w : World) (hA : Arg w A n c (ints xs)) (hB : Arg w B m d (ints ys)) (hC : Arg w C p q (ints us)) (hE : Arg w E k l (ints vs)) :
    Calls Try.prog 42 #[.agg #[.bool s, .slice A n c, .slice B m d], .agg #[.bool t, .slice C p q, .slice E k l]] w fun e w' => e = .returned (.int .i64 (cmpR s xs ys t us vs)) ∧ Below w.heap.size w w' := by
  obtain ⟨Q, hQ⟩ : ∃ y9, cmpR s xs ys t us vs = y9 := ⟨_, rfl⟩
  rw [hQ]
  have HQ := Lib.hid hQ
  have HA := Lib.hid hA
  have HB := Lib.hid hB
  have HC := Lib.hid hC
  have HE := Lib.hid hE
  clear hQ hA hB hC hE
  go_enter Try.func42, Try.ntmps42
  have HB_0 := Lib.hid (((Below.refl w.heap.size w).alloc (Nat.le_refl _) (.cells #[.bool s, .slice A n c, .slice B m d] 31)).alloc (by simp) (.cells #[.bool t, .slice C p q, .slice E k l] 31))
  have K_a_0 := Lib.hid ((HeldL.new_at w (w.heap.size) [.bool s, .slice A n c, .slice B m d] 31 (by first | rfl | simp)).alloc (.cells #[.bool t, .slice C p q, .slice E k l] 31))
  have K_b_0 := Lib.hid (HeldL.new_at (w.alloc (.cells #[.bool s, .slice A n c, .slice B m d] 31)) (w.heap.size + 1) [.bool t, .slice C p q, .slice E k l] 31 (by first | rfl | simp))
  have hne_a_b : w.heap.size ≠ w.heap.size + 1 := by omega
  have hne_b_a : w.heap.size + 1 ≠ w.heap.size := by omega
  go_wp2_with fail
  refine (ratOk_spec s A n c xs B m d ys _ (HA.out.below HB_0.out (Nat.le_refl _)) (HB.out.below HB_0.out (Nat.le_refl _))).mono ?_
  rintro e w1 ⟨rfl, hb⟩
  have K_a_1 := Lib.hid (K_a_0.out.after hb)
  have K_b_1 := Lib.hid (K_b_0.out.after hb)
  have HB_1 := Lib.hid (HB_0.out.trans (hb.mono HB_0.out.size))
  clear hb
  by_cases hok : okR s xs ys = true
  · rw [hok]
    have hk_b_0_1 := K_b_1.out.cell 0 _ rfl
    have hk_b_1_1 := K_b_1.out.cell 1 _ rfl
    have hk_b_2_1 := K_b_1.out.cell 2 _ rfl
    go_wp2_with fail
    refine (ratOk_spec t C p q us E k l vs _ (HC.out.below HB_1.out (Nat.le_refl _)) (HE.out.below HB_1.out (Nat.le_refl _))).mono ?_
    rintro e w2 ⟨rfl, hb⟩
    have K_a_2 := Lib.hid (K_a_1.out.after hb)
    have K_b_2 := Lib.hid (K_b_1.out.after hb)
    have HB_2 := Lib.hid (HB_1.out.trans (hb.mono HB_1.out.size))
    clear hb
    clear hk_b_0_1
    clear hk_b_1_1
    clear hk_b_2_1
    by_cases hok2 : okR t us vs = true
    · rw [hok2]
      have HCQ := Lib.hid ((cmpR_yes hok hok2).symm.trans HQ.out)
      obtain ⟨hex, hey, hval⟩ := okR_nats hok
      have HAn := Lib.hid (hex ▸ HA.out)
      have HBn := Lib.hid (hey ▸ HB.out)
      have HV := Lib.hid hval
      have HOK := Lib.hid hok
      clear hex hey hval hok
      obtain ⟨hex, hey, hval⟩ := okR_nats hok2
      have HCn := Lib.hid (hex ▸ HC.out)
      have HEn := Lib.hid (hey ▸ HE.out)
      have HV2 := Lib.hid hval
      have HOK2 := Lib.hid hok2
      clear hex hey hval hok2
      have hk_a_0_2 := K_a_2.out.cell 0 _ rfl
      have hk_a_1_2 := K_a_2.out.cell 1 _ rfl
      have hk_a_2_2 := K_a_2.out.cell 2 _ rfl
      have hk_b_0_2 := K_b_2.out.cell 0 _ rfl
      have hk_b_1_2 := K_b_2.out.cell 1 _ rfl
      have hk_b_2_2 := K_b_2.out.cell 2 _ rfl
      go_wp2_with fail
      refine (l04Cmp_at s A n c (toN xs) B m d (toN ys) t C p q (toN us) E k l (toN vs) Q HCQ.out _ (HAn.out.below HB_2.out (Nat.le_refl _)) (HBn.out.below HB_2.out (Nat.le_refl _)) HV.out (HCn.out.below HB_2.out (Nat.le_refl _)) (HEn.out.below HB_2.out (Nat.le_refl _)) HV2.out).mono ?_
      rintro e w9 ⟨rfl, hb⟩
      have K_a_3 := Lib.hid (K_a_2.out.after hb)
      have K_b_3 := Lib.hid (K_b_2.out.after hb)
      have HB_3 := Lib.hid (HB_2.out.trans (hb.mono HB_2.out.size))
      clear hb
      clear hk_a_0_2
      clear hk_a_1_2
      clear hk_a_2_2
      clear hk_b_0_2
      clear hk_b_1_2
      clear hk_b_2_2
      go_wp2
      go_ret
      exact ⟨rfl, HB_3.out⟩
    · rw [Bool.not_eq_true] at hok2
      rw [hok2]
      obtain rfl : Q = 0 := by rw [← HQ.out]; exact cmpR_no (.inr hok2)
      go_wp2
      go_ret
      exact ⟨rfl, HB_2.out⟩
  · rw [Bool.not_eq_true] at hok
    rw [hok]
    obtain rfl : Q = 0 := by rw [← HQ.out]; exact cmpR_no (.inl hok)
    go_wp2
    go_ret
    exact ⟨rfl, HB_1.out⟩
theorem sgnR_nil {s : Bool} {xs ys : List Int} (h : xs.length = 0) : sgnR s xs ys = 0 := by
  unfold sgnR
  rw [zOf, List.eq_nil_of_length_eq_zero h]
  have e : signed s (val (toN [])) = 0 := by cases s <;> rfl
  rw [e]
  split <;> rfl
theorem zOf_pos {xs ys : List Int} {s : Bool} (h : okR s xs ys = true) (hl : 0 < xs.length) : 0 < val (toN xs) := val_pos (okI_nats (okB_ok (okR_parts h).1)).2.1 (by rw [toN_len]; exact hl)
theorem sgnR_true {xs ys : List Int} (h : okR true xs ys = true) (hl : 0 < xs.length) : sgnR true xs ys = -1 := by
  have h1 := zOf_pos h hl
  have h2 : zOf true xs < 0 := by simp [zOf, signed]; omega
  unfold sgnR cmpZ
  rw [if_pos h, if_pos h2]
theorem sgnR_false {xs ys : List Int} (h : okR false xs ys = true) (hl : 0 < xs.length) : sgnR false xs ys = 1 := by
  have h1 := zOf_pos h hl
  have h2 : 0 < zOf false xs := by simp [zOf, signed]; omega
  unfold sgnR cmpZ
  rw [if_pos h, if_neg (by omega), if_neg (by omega)]
theorem sgnR_no {s : Bool} {xs ys : List Int} (h : okR s xs ys = false) : sgnR s xs ys = 0 := by unfold sgnR; rw [h]; rfl
set_option maxRecDepth 100000 in
set_option maxHeartbeats 4000000 in
theorem ratSign_spec (s : Bool) (A : Option Addr) (n c : Nat) (xs : List Int) (B : Option Addr) (m d : Nat) (ys : List Int) (w : World) (hA : Arg w A n c (ints xs)) (hB : Arg w B m d (ints ys)) :
    Calls Try.prog 44 #[.agg #[.bool s, .slice A n c, .slice B m d]] w fun e w' => e = .returned (.int .i64 (sgnR s xs ys)) ∧ Below w.heap.size w w' := by
  obtain ⟨Q, hQ⟩ : ∃ y9, sgnR s xs ys = y9 := ⟨_, rfl⟩
  rw [hQ]
  have HL := Lib.hid hA.ilen
  have hn := hA.max
  unfold maxLen at hn
  have HQ := Lib.hid hQ
  have HA := Lib.hid hA
  have HB := Lib.hid hB
  clear hQ hA hB
  go_enter Try.func44, Try.ntmps44
  have HB_0 := Lib.hid ((Below.refl w.heap.size w).alloc (Nat.le_refl _) (.cells #[.bool s, .slice A n c, .slice B m d] 31))
  have K_a_0 := Lib.hid (HeldL.new_at w (w.heap.size) [.bool s, .slice A n c, .slice B m d] 31 (by first | rfl | simp))
  go_wp2_with fail
  refine (ratOk_spec s A n c xs B m d ys _ (HA.out.below HB_0.out (Nat.le_refl _)) (HB.out.below HB_0.out (Nat.le_refl _))).mono ?_
  rintro e w1 ⟨rfl, hb⟩
  have K_a_1 := Lib.hid (K_a_0.out.after hb)
  have HB_1 := Lib.hid (HB_0.out.trans (hb.mono HB_0.out.size))
  clear hb
  by_cases hok : okR s xs ys = true
  · rw [hok]
    have HOK := Lib.hid hok
    clear hok
    by_cases h0 : n = 0
    · subst h0
      obtain rfl : Q = 0 := by rw [← HQ.out]; exact sgnR_nil HL.out
      have hk_a_0_1 := K_a_1.out.cell 0 _ rfl
      have hk_a_1_1 := K_a_1.out.cell 1 _ rfl
      have hk_a_2_1 := K_a_1.out.cell 2 _ rfl
      go_wp2
      go_ret
      exact ⟨rfl, HB_1.out⟩
    · have h1 : ¬ (n : Int) = 0 := by omega
      cases s
      · obtain rfl : Q = 1 := by rw [← HQ.out]; exact sgnR_false HOK.out (by rw [HL.out]; omega)
        have hk_a_0_1 := K_a_1.out.cell 0 _ rfl
        have hk_a_1_1 := K_a_1.out.cell 1 _ rfl
        have hk_a_2_1 := K_a_1.out.cell 2 _ rfl
        go_wp2
        go_ret
        exact ⟨rfl, HB_1.out⟩
      · obtain rfl : Q = -1 := by rw [← HQ.out]; exact sgnR_true HOK.out (by rw [HL.out]; omega)
        have hk_a_0_1 := K_a_1.out.cell 0 _ rfl
        have hk_a_1_1 := K_a_1.out.cell 1 _ rfl
        have hk_a_2_1 := K_a_1.out.cell 2 _ rfl
        go_wp2
        go_ret
        exact ⟨rfl, HB_1.out⟩
  · rw [Bool.not_eq_true] at hok
    rw [hok]
    obtain rfl : Q = 0 := by rw [← HQ.out]; exact sgnR_no hok
    clear hok
    have hk_a_0_1 := K_a_1.out.cell 0 _ rfl
    have hk_a_1_1 := K_a_1.out.cell 1 _ rfl
    have hk_a_2_1 := K_a_1.out.cell 2 _ rfl
    go_wp2
    go_ret
    exact ⟨rfl, HB_1.out⟩
end Go.Proofs.Ytbblfledkmcfmaa
