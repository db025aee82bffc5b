/- Big integers: BigIntToInt of the model and of the program. Conditions: none. -/
import Derived.Test.YthijfjjeklmemaaProg
import Derived.Test.YthijfjjeklmemaaBig
import Derived.Test.YthijfjjeklmemaaNatToInt
namespace Go.Proofs.Ythijfjjeklmemaa
open Go.RowKit Nt
set_option linter.unusedVariables false

/-- What BigIntToInt answers. -/
def bfits (s : Bool) (xs : List Int) : Bool := fitsI xs && okB s xs
def bint (s : Bool) (xs : List Int) : Int := if bfits s xs = true then (if s then -(intI xs) else intI xs) else 0
theorem bint_no {s : Bool} {xs : List Int} (h : fitsI xs = false ∨ okB s xs = false) : bfits s xs = false ∧ bint s xs = 0 := by
  have e : bfits s xs = false := by unfold bfits; rcases h with h | h <;> simp [h]
  exact ⟨e, by rw [bint, e]; rfl⟩
theorem bint_yes {s : Bool} {xs : List Int} (h1 : fitsI xs = true) (h2 : okB s xs = true) : bfits s xs = true ∧ bint s xs = (if s then -(intI xs) else intI xs) := by
  have e : bfits s xs = true := by unfold bfits; rw [h1, h2]; rfl
  exact ⟨e, by rw [bint, e, if_pos rfl]⟩
theorem intI_le (xs : List Int) : 0 ≤ intI xs ∧ intI xs ≤ 9223372036854775807 := by
  by_cases h : fitsI xs = true
  · rw [← int_yes h]
    have := (fits_iff.mp h).2
    omega
  · rw [← int_no (Bool.not_eq_true _ ▸ h)]
    omega
set_option maxRecDepth 100000 in
set_option maxHeartbeats 4000000 in
theorem bigIntToInt_spec (s : Bool) (A : Option Addr) (n c : Nat) (xs : List Int) (w : World) (hA : VRow w A n (ints xs)) (hn : n ≤ maxLen) :
    Calls Try.prog 21 #[.agg #[.bool s, .slice A n c]] w fun e w' => e = .returned (.tuple #[.int .i64 (bint s xs), .bool (bfits s xs)]) ∧ Below w.heap.size w w' := by
  have HLE := Lib.hid (intI_le xs)
  have HA := Lib.hid hA
  have HN := Lib.hid hn
  have HL := Lib.hid (show xs.length = n by simpa [ints] using hA.1)
  clear hA hn
  go_enter Try.func21, Try.ntmps21
  have HB_0 := Lib.hid ((Below.refl w.heap.size w).alloc (Nat.le_refl _) (.cells #[.bool s, .slice A n c] 27))
  have K0_0 := Lib.hid (Held.new_at w (w.heap.size) (.bool s) (.slice A n c) 27 (by first | rfl | simp))
  go_wp2_with fail
  refine (natToInt_spec A n c xs _ (HA.out.below HB_0.out (Nat.le_refl _)) HN.out).mono ?_
  rintro e w0 ⟨rfl, hb⟩
  have K0_1 := Lib.hid (K0_0.out.after hb)
  have HB_1 := Lib.hid (HB_0.out.trans (hb.mono HB_0.out.size))
  clear hb
  obtain ⟨q, hq⟩ : ∃ q, intI xs = q := ⟨_, rfl⟩
  have hq0 : 0 ≤ q ∧ q ≤ 9223372036854775807 := by rw [← hq]; exact HLE.out
  have HQ := Lib.hid hq
  rw [hq]
  clear hq
  by_cases hf : fitsI xs = true
  · rw [hf]
    have HF := Lib.hid hf
    clear hf
    have hk0c0_1 := K0_1.out.c0
    have hk0c1_1 := K0_1.out.c1
    go_wp2_with fail
    refine (bigIntOk_spec s A n c xs _ (HA.out.below HB_1.out (Nat.le_refl _)) HN.out).mono ?_
    rintro e w02 ⟨rfl, hb⟩
    have K0_2 := Lib.hid (K0_1.out.after hb)
    have HB_2 := Lib.hid (HB_1.out.trans (hb.mono HB_1.out.size))
    clear hb
    clear hk0c0_1
    clear hk0c1_1
    have hk0c0_2 := K0_2.out.c0
    have hk0c1_2 := K0_2.out.c1
    by_cases hok : okB s xs = true
    · rw [hok]
      have HE := Lib.hid (bint_yes HF.out hok)
      clear hok
      cases s
      · go_wp2
        go_ret2
        exact ⟨by rw [HE.out.1, HE.out.2, HQ.out]; rfl, HB_2.out⟩
      · go_wp2
        go_ret2
        exact ⟨by rw [HE.out.1, HE.out.2, HQ.out]; rfl, HB_2.out⟩
    · rw [Bool.not_eq_true] at hok
      rw [hok]
      have HE := Lib.hid (bint_no (s := s) (xs := xs) (.inr hok))
      clear hok
      go_wp2
      go_ret2
      exact ⟨by rw [HE.out.1, HE.out.2]; rfl, HB_2.out⟩
  · rw [Bool.not_eq_true] at hf
    rw [hf]
    have HE := Lib.hid (bint_no (s := s) (xs := xs) (.inl hf))
    clear hf
    go_wp2
    go_ret2
    exact ⟨by rw [HE.out.1, HE.out.2]; rfl, HB_1.out⟩
set_option maxRecDepth 100000 in
set_option maxHeartbeats 4000000 in
theorem toInt_any (A : Option Addr) (n c : Nat) (xs : List Int) (w : World) (hA : VRow w A n (ints xs)) (hn : n ≤ maxLen) :
    Calls Try.prog 48 #[.slice A n c] w (fun e w' => e = .returned (.tuple #[.int .i64 (intI xs), .bool (fitsI xs)]) ∧ Below w.heap.size w w') := by
  have HA := Lib.hid hA
  have HN := Lib.hid hn
  clear hA hn
  go_enter Try.func48, Try.ntmps48
  go_wp2_with fail
  refine (natToInt_impl A n c xs _ HA.out HN.out).mono ?_
  rintro e w1 ⟨rfl, hb⟩
  have HB1 := Lib.hid hb
  clear hb
  go_wp2
  go_ret2
  exact ⟨rfl, HB1.out⟩
set_option maxRecDepth 100000 in
set_option maxHeartbeats 4000000 in
theorem bigIntToInt_impl (s : Bool) (A : Option Addr) (n c : Nat) (xs : List Int) (w : World) (hA : VRow w A n (ints xs)) (hn : n ≤ maxLen) :
    Calls Try.prog 22 #[.agg #[.bool s, .slice A n c]] w fun e w' => e = .returned (.tuple #[.int .i64 (bint s xs), .bool (bfits s xs)]) ∧ Below w.heap.size w w' := by
  have HLE := Lib.hid (intI_le xs)
  have HA := Lib.hid hA
  have HN := Lib.hid hn
  have HL := Lib.hid (show xs.length = n by simpa [ints] using hA.1)
  clear hA hn
  go_enter Try.func22, Try.ntmps22
  have HB_0 := Lib.hid ((Below.refl w.heap.size w).alloc (Nat.le_refl _) (.cells #[.bool s, .slice A n c] 27))
  have K0_0 := Lib.hid (Held.new_at w (w.heap.size) (.bool s) (.slice A n c) 27 (by first | rfl | simp))
  go_wp2_with fail
  refine (signedOf_any s A n c _).mono ?_
  rintro e w00 ⟨rfl, hb⟩
  have K0_1 := Lib.hid (K0_0.out.after hb)
  have HB_1 := Lib.hid (HB_0.out.trans (hb.mono HB_0.out.size))
  clear hb
  have K0_2 := Lib.hid (K0_1.out.alloc (.cells #[.slice A n c, .bool s] 49))
  have K1_2 := Lib.hid (Held.new w00 (.slice A n c) (.bool s) 49)
  have hne01 : w.heap.size ≠ w00.heap.size := by have := K0_1.out.lt; omega
  have hne10 : w00.heap.size ≠ w.heap.size := by have := K0_1.out.lt; omega
  have HB_2 := Lib.hid (HB_1.out.alloc HB_1.out.size (.cells #[.slice A n c, .bool s] 49))
  go_wp2_with fail
  refine (toInt_any A n c xs _ (HA.out.below HB_2.out (Nat.le_refl _)) HN.out).mono ?_
  rintro e w0 ⟨rfl, hb⟩
  have K0_3 := Lib.hid (K0_2.out.after hb)
  have K1_3 := Lib.hid (K1_2.out.after hb)
  have HB_3 := Lib.hid (HB_2.out.trans (hb.mono HB_2.out.size))
  clear hb
  obtain ⟨q, hq⟩ : ∃ q, intI xs = q := ⟨_, rfl⟩
  have hq0 : 0 ≤ q ∧ q ≤ 9223372036854775807 := by rw [← hq]; exact HLE.out
  have HQ := Lib.hid hq
  rw [hq]
  clear hq
  by_cases hf : fitsI xs = true
  · rw [hf]
    have HF := Lib.hid hf
    clear hf
    have hk1c0_3 := K1_3.out.c0
    have hk1c1_3 := K1_3.out.c1
    go_wp2_with fail
    refine (isValid_any s A n c xs _ (HA.out.below HB_3.out (Nat.le_refl _)) HN.out).mono ?_
    rintro e w02 ⟨rfl, hb⟩
    have K0_4 := Lib.hid (K0_3.out.after hb)
    have K1_4 := Lib.hid (K1_3.out.after hb)
    have HB_4 := Lib.hid (HB_3.out.trans (hb.mono HB_3.out.size))
    clear hb
    clear hk1c0_3
    clear hk1c1_3
    have hk1c0_4 := K1_4.out.c0
    have hk1c1_4 := K1_4.out.c1
    by_cases hok : okB s xs = true
    · rw [hok]
      have HE := Lib.hid (bint_yes HF.out hok)
      clear hok
      cases s
      · go_wp2
        go_ret2
        exact ⟨by rw [HE.out.1, HE.out.2, HQ.out]; rfl, HB_4.out⟩
      · go_wp2
        go_ret2
        exact ⟨by rw [HE.out.1, HE.out.2, HQ.out]; rfl, HB_4.out⟩
    · rw [Bool.not_eq_true] at hok
      rw [hok]
      have HE := Lib.hid (bint_no (s := s) (xs := xs) (.inr hok))
      clear hok
      go_wp2
      go_ret2
      exact ⟨by rw [HE.out.1, HE.out.2]; rfl, HB_4.out⟩
  · rw [Bool.not_eq_true] at hf
    rw [hf]
    have HE := Lib.hid (bint_no (s := s) (xs := xs) (.inl hf))
    clear hf
    go_wp2
    go_ret2
    exact ⟨by rw [HE.out.1, HE.out.2]; rfl, HB_3.out⟩
end Go.Proofs.Ythijfjjeklmemaa
