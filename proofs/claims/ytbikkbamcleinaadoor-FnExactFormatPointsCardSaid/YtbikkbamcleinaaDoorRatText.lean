/- Fractions: FormatRat of the model and of the program. Conditions: none. -/
import Derived.Test.YtbikkbamcleinaaDoorProg
import Derived.Test.YtbikkbamcleinaaDoorB5
import Derived.Test.YtbikkbamcleinaaDoorBigText
namespace Go.Proofs.YtbikkbamcleinaaDoor
open Go.RowKit Nt
set_option linter.unusedVariables false

/-- What FormatRat answers. -/
def fmtR (s : Bool) (xs ys : List Int) : ByteArray := if okR s xs ys = true then (if isOne (toN ys) = true then fmtB s xs else fmtB s xs ++ ⟨#[47]⟩ ++ fmtN ys) else ⟨#[]⟩
theorem fmtR_no {s : Bool} {xs ys : List Int} (h : okR s xs ys = false) : fmtR s xs ys = ⟨#[]⟩ := by simp [fmtR, h]
theorem fmtR_one {s : Bool} {xs ys : List Int} (h : okR s xs ys = true) (h1 : isOne (toN ys) = true) : fmtR s xs ys = fmtB s xs := by simp [fmtR, h, h1]
theorem fmtR_two {s : Bool} {xs ys : List Int} (h : okR s xs ys = true) (h1 : isOne (toN ys) = false) : fmtR s xs ys = fmtB s xs ++ ⟨#[47]⟩ ++ fmtN ys := by simp [fmtR, h, h1]
theorem fmtB_size (s : Bool) (xs : List Int) : (fmtB s xs).size ≤ 601 := by
  have h := fmtN_size xs
  unfold fmtB
  split
  · split
    · rw [ByteArray.size_append]
      have : (⟨#[45]⟩ : ByteArray).size = 1 := rfl
      omega
    · omega
  · exact Nat.zero_le _
set_option maxRecDepth 100000 in
set_option maxHeartbeats 4000000 in
theorem formatRat_spec (s : Bool) (A : Option Addr) (n c : Nat) (xs : List Int) (B : Option Addr) (m d : Nat) (ys : List Int) (w : World) (hA : Arg w A n c (ints xs)) (hB : Arg w B m d (ints ys)) :
    Calls Tryd.prog 12 #[.agg #[.bool s, .slice A n c, .slice B m d]] w fun e w' => e = .returned (.string (fmtR s xs ys)) ∧ Below w.heap.size w w' := by
  have HA := Lib.hid hA
  have HB := Lib.hid hB
  clear hA hB
  have HS1 := Lib.hid (fmtB_size s xs)
  have HS2 := Lib.hid (fmtN_size ys)
  obtain ⟨T1, hT1⟩ : ∃ y9, fmtB s xs = y9 := ⟨_, rfl⟩
  obtain ⟨T2, hT2⟩ : ∃ y9, fmtN ys = y9 := ⟨_, rfl⟩
  rw [hT1] at HS1
  rw [hT2] at HS2
  have HT1 := Lib.hid hT1
  have HT2 := Lib.hid hT2
  clear hT1 hT2
  go_enter Tryd.func12, Tryd.ntmps12
  have HB_0 := Lib.hid ((Below.refl w.heap.size w).alloc (Nat.le_refl _) (.cells #[.bool s, .slice A n c, .slice B m d] 40))
  have K_a_0 := Lib.hid (HeldL.new_at w (w.heap.size) [.bool s, .slice A n c, .slice B m d] 40 (by first | rfl | simp))
  go_wp2_with fail
  refine (ratOk_spec s A n c xs B m d ys _ (HA.out.below HB_0.out (Nat.le_refl _)) (HB.out.below HB_0.out (Nat.le_refl _))).mono ?_
  rintro e w1 ⟨rfl, hb⟩
  have K_a_1 := Lib.hid (K_a_0.out.after hb)
  have HB_1 := Lib.hid (HB_0.out.trans (hb.mono HB_0.out.size))
  clear hb
  by_cases hok : okR s xs ys = true
  · rw [hok]
    obtain ⟨hex, hey, hval⟩ := okR_nats hok
    have HAn := Lib.hid (hex ▸ HA.out)
    have HBn := Lib.hid (hey ▸ HB.out)
    have HV := Lib.hid hval
    have HOK := Lib.hid hok
    clear hex hey hval hok
    have hk_a_0_1 := K_a_1.out.cell 0 _ rfl
    have hk_a_1_1 := K_a_1.out.cell 1 _ rfl
    have hk_a_2_1 := K_a_1.out.cell 2 _ rfl
    go_wp2_with fail
    refine (l04One_any B m d (toN ys) _ (HBn.out.below HB_1.out (Nat.le_refl _)).1 HB.out.max).mono ?_
    rintro e w2 ⟨rfl, hw⟩
    obtain rfl := hw.symm
    clear hk_a_0_1
    clear hk_a_1_1
    clear hk_a_2_1
    by_cases h1 : isOne (toN ys) = true
    · rw [h1]
      have HE := Lib.hid ((fmtR_one HOK.out h1).trans HT1.out)
      clear h1
      have hk_a_0_1 := K_a_1.out.cell 0 _ rfl
      have hk_a_1_1 := K_a_1.out.cell 1 _ rfl
      have hk_a_2_1 := K_a_1.out.cell 2 _ rfl
      go_wp2_with fail
      refine (formatBigInt_spec s A n c xs _ (HA.out.below HB_1.out (Nat.le_refl _)).1 HA.out.max).mono ?_
      rintro e w3 ⟨rfl, hb⟩
      have K_a_2 := Lib.hid (K_a_1.out.after hb)
      have HB_2 := Lib.hid (HB_1.out.trans (hb.mono HB_1.out.size))
      clear hb
      clear hk_a_0_1
      clear hk_a_1_1
      clear hk_a_2_1
      rw [HT1.out]
      go_wp2
      go_ret
      exact ⟨by rw [HE.out]; rfl, HB_2.out⟩
    · rw [Bool.not_eq_true] at h1
      rw [h1]
      have HE := Lib.hid (show fmtR s xs ys = T1 ++ ⟨#[47]⟩ ++ T2 by rw [fmtR_two HOK.out h1, HT1.out, HT2.out])
      clear h1
      have hz1 : ¬ (9223372036854775807 < T1.size + 1) := by have := HS1.out; omega
      have hz2 : ¬ (9223372036854775807 < T1.size + 1 + T2.size) := by have := HS1.out; have := HS2.out; omega
      have hk_a_0_1 := K_a_1.out.cell 0 _ rfl
      have hk_a_1_1 := K_a_1.out.cell 1 _ rfl
      have hk_a_2_1 := K_a_1.out.cell 2 _ rfl
      go_wp2
      go_region_held3 (fun w' => w'.cell? ⟨w.heap.size, 0, none⟩ = some (.bool s) ∧ w'.cell? ⟨w.heap.size, 1, none⟩ = some (.slice A n c) ∧ w'.cell? ⟨w.heap.size, 2, none⟩ = some (.slice B m d)) (go_keep)
        (first
          | (go_at_call 23
             refine (formatBigInt_spec s A n c xs _ (HA.out.below HB_1.out.drew (Nat.le_refl _)).1 HA.out.max).mono ?_
             rintro e w3 ⟨rfl, hb⟩
             rw [HT1.out]
             have K_a_2 := Lib.hid (K_a_1.out.drew.after hb)
             have HB_2 := Lib.hid (HB_1.out.drew.trans (hb.mono HB_1.out.drew.size))
             clear hb
             have hk_a_0_2 := K_a_2.out.cell 0 _ rfl
             have hk_a_1_2 := K_a_2.out.cell 1 _ rfl
             have hk_a_2_2 := K_a_2.out.cell 2 _ rfl)
          | (go_at_call 24
             refine (formatNat_spec B m d ys _ (HB.out.below HB_2.out (Nat.le_refl _)).1 HB.out.max).mono ?_
             rintro e w4 ⟨rfl, hb⟩
             rw [HT2.out]
             have K_a_3 := Lib.hid (K_a_2.out.after hb)
             have HB_3 := Lib.hid (HB_2.out.trans (hb.mono HB_2.out.size))
             clear hb
             have hk_a_0_3 := K_a_3.out.cell 0 _ rfl
             have hk_a_1_3 := K_a_3.out.cell 1 _ rfl
             have hk_a_2_3 := K_a_3.out.cell 2 _ rfl))
      all_goals go_wp2
      all_goals go_ret
      all_goals exact ⟨by rw [HE.out]; rfl, HB_3.out⟩
  · rw [Bool.not_eq_true] at hok
    rw [hok]
    have HE := Lib.hid (fmtR_no hok)
    clear hok
    go_wp2
    go_ret
    exact ⟨by rw [HE.out]; rfl, HB_1.out⟩
set_option maxRecDepth 100000 in
set_option maxHeartbeats 4000000 in
theorem formatRat_impl (s : Bool) (A : Option Addr) (n c : Nat) (xs : List Int) (B : Option Addr) (m d : Nat) (ys : List Int) (w : World) (hA : Arg w A n c (ints xs)) (hB : Arg w B m d (ints ys)) (hlaid : Laid1 w) :
    Calls Tryd.prog 15 #[.agg #[.bool s, .slice A n c, .slice B m d]] w fun e w' => e = .returned (.string (fmtR s xs ys)) ∧ Below w.heap.size w w' := by
  have HA := Lib.hid hA
  have HB := Lib.hid hB
  have Hlaid := Lib.hid hlaid
  clear hA hB hlaid
  have HS1 := Lib.hid (fmtB_size s xs)
  have HS2 := Lib.hid (fmtN_size ys)
  obtain ⟨T1, hT1⟩ : ∃ y9, fmtB s xs = y9 := ⟨_, rfl⟩
  obtain ⟨T2, hT2⟩ : ∃ y9, fmtN ys = y9 := ⟨_, rfl⟩
  rw [hT1] at HS1
  rw [hT2] at HS2
  have HT1 := Lib.hid hT1
  have HT2 := Lib.hid hT2
  clear hT1 hT2
  go_enter Tryd.func15, Tryd.ntmps15
  have HB_0 := Lib.hid ((Below.refl w.heap.size w).alloc (Nat.le_refl _) (.cells #[.bool s, .slice A n c, .slice B m d] 40))
  have K_a_0 := Lib.hid (HeldL.new_at w (w.heap.size) [.bool s, .slice A n c, .slice B m d] 40 (by first | rfl | simp))
  go_wp2_with fail
  refine (isValidR_any s A n c xs B m d ys _ (HA.out.below HB_0.out (Nat.le_refl _)) (HB.out.below HB_0.out (Nat.le_refl _))).mono ?_
  rintro e w1 ⟨rfl, hb⟩
  have K_a_1 := Lib.hid (K_a_0.out.after hb)
  have HB_1 := Lib.hid (HB_0.out.trans (hb.mono HB_0.out.size))
  clear hb
  by_cases hok : okR s xs ys = true
  · rw [hok]
    obtain ⟨hex, hey, hval⟩ := okR_nats hok
    have HAn := Lib.hid (hex ▸ HA.out)
    have HBn := Lib.hid (hey ▸ HB.out)
    have HV := Lib.hid hval
    have HOK := Lib.hid hok
    clear hex hey hval hok
    have hk_a_0_1 := K_a_1.out.cell 0 _ rfl
    have hk_a_1_1 := K_a_1.out.cell 1 _ rfl
    have hk_a_2_1 := K_a_1.out.cell 2 _ rfl
    go_wp2_with fail
    refine (isOneRow_any B m d (toN ys) _ (HBn.out.below HB_1.out (Nat.le_refl _)).1 HB.out.max).mono ?_
    rintro e w2 ⟨rfl, hw⟩
    obtain rfl := hw.symm
    clear hk_a_0_1
    clear hk_a_1_1
    clear hk_a_2_1
    by_cases h1 : isOne (toN ys) = true
    · rw [h1]
      have HE := Lib.hid ((fmtR_one HOK.out h1).trans HT1.out)
      clear h1
      have hk_a_0_1 := K_a_1.out.cell 0 _ rfl
      have hk_a_1_1 := K_a_1.out.cell 1 _ rfl
      have hk_a_2_1 := K_a_1.out.cell 2 _ rfl
      go_wp2_with fail
      refine (formatBigInt_impl s A n c xs _ (HA.out.below HB_1.out (Nat.le_refl _)).1 HA.out.max (Hlaid.out.below HB_1.out)).mono ?_
      rintro e w3 ⟨rfl, hb⟩
      have K_a_2 := Lib.hid (K_a_1.out.after hb)
      have HB_2 := Lib.hid (HB_1.out.trans (hb.mono HB_1.out.size))
      clear hb
      clear hk_a_0_1
      clear hk_a_1_1
      clear hk_a_2_1
      rw [HT1.out]
      go_wp2
      go_ret
      exact ⟨by rw [HE.out]; rfl, HB_2.out⟩
    · rw [Bool.not_eq_true] at h1
      rw [h1]
      have HE := Lib.hid (show fmtR s xs ys = T1 ++ ⟨#[47]⟩ ++ T2 by rw [fmtR_two HOK.out h1, HT1.out, HT2.out])
      clear h1
      have hz1 : ¬ (9223372036854775807 < T1.size + 1) := by have := HS1.out; omega
      have hz2 : ¬ (9223372036854775807 < T1.size + 1 + T2.size) := by have := HS1.out; have := HS2.out; omega
      have hk_a_0_1 := K_a_1.out.cell 0 _ rfl
      have hk_a_1_1 := K_a_1.out.cell 1 _ rfl
      have hk_a_2_1 := K_a_1.out.cell 2 _ rfl
      go_wp2
      go_region_held3 (fun w' => w'.cell? ⟨w.heap.size, 0, none⟩ = some (.bool s) ∧ w'.cell? ⟨w.heap.size, 1, none⟩ = some (.slice A n c) ∧ w'.cell? ⟨w.heap.size, 2, none⟩ = some (.slice B m d)) (go_keep)
        (first
          | (go_at_call 28
             refine (formatBigInt_impl s A n c xs _ (HA.out.below HB_1.out.drew (Nat.le_refl _)).1 HA.out.max (Hlaid.out.below HB_1.out.drew)).mono ?_
             rintro e w3 ⟨rfl, hb⟩
             rw [HT1.out]
             have K_a_2 := Lib.hid (K_a_1.out.drew.after hb)
             have HB_2 := Lib.hid (HB_1.out.drew.trans (hb.mono HB_1.out.drew.size))
             clear hb
             have hk_a_0_2 := K_a_2.out.cell 0 _ rfl
             have hk_a_1_2 := K_a_2.out.cell 1 _ rfl
             have hk_a_2_2 := K_a_2.out.cell 2 _ rfl)
          | (go_at_call 29
             refine (formatNat_impl B m d ys _ (HB.out.below HB_2.out (Nat.le_refl _)).1 HB.out.max (Hlaid.out.below HB_2.out)).mono ?_
             rintro e w4 ⟨rfl, hb⟩
             rw [HT2.out]
             have K_a_3 := Lib.hid (K_a_2.out.after hb)
             have HB_3 := Lib.hid (HB_2.out.trans (hb.mono HB_2.out.size))
             clear hb
             have hk_a_0_3 := K_a_3.out.cell 0 _ rfl
             have hk_a_1_3 := K_a_3.out.cell 1 _ rfl
             have hk_a_2_3 := K_a_3.out.cell 2 _ rfl))
      all_goals go_wp2
      all_goals go_ret
      all_goals exact ⟨by rw [HE.out]; rfl, HB_3.out⟩
  · rw [Bool.not_eq_true] at hok
    rw [hok]
    have HE := Lib.hid (fmtR_no hok)
    clear hok
    go_wp2
    go_ret
    exact ⟨by rw [HE.out]; rfl, HB_1.out⟩
end Go.Proofs.YtbikkbamcleinaaDoor
