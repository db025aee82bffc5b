/- Big integers: BigIntOf of the model and of the program. Conditions: none. -/
import Derived.Test.YtdilbhkdkppodaaProg
import Derived.Test.YtdilbhkdkppodaaBigMake
import Derived.Test.YtdilbhkdkppodaaNatOf
namespace Go.Proofs.Ytdilbhkdkppodaa
open Go.RowKit Nt
set_option linter.unusedVariables false

theorem int_small {z : Int} (h : -9223372036854775808 ≤ z ∧ z ≤ 9223372036854775807) : z.natAbs < 1000000000 ^ 60 := by
  have h1 : z.natAbs < 1000000000 ^ 4 := by omega
  exact Nat.lt_of_lt_of_le h1 (Nat.pow_le_pow_right (by decide) (by decide))
theorem least_row (w : World) (t : TypeId) : VRow (w.alloc (.cells #[.int .i64 854775808, .int .i64 223372036, .int .i64 9] t)) (some ⟨w.heap.size, 0, none⟩) 3 (nats [854775808, 223372036, 9]) := by
  refine ⟨rfl, fun _ => ⟨w.heap.size, 0, rfl, by simp, fun k hk => ?_⟩⟩
  match k, hk with
  | 0, _ => simp [go_sem, nats, ints]
  | 1, _ => simp [go_sem, nats, ints]
  | 2, _ => simp [go_sem, nats, ints]
theorem least_val : signed true (val [854775808, 223372036, 9]) = -9223372036854775808 := by simp [signed, val]
theorem least_digs : Digs [854775808, 223372036, 9] := by intro d hd; simp at hd; omega
set_option maxRecDepth 100000 in
set_option maxHeartbeats 4000000 in
theorem bigIntOf_spec (a : Int) (w : World) (ha : -9223372036854775808 ≤ a ∧ a ≤ 9223372036854775807) :
    Calls Try.prog 55 #[.int .i64 a] w (OwnRB 3 (sgZ a) (nats (magZ a)) w) := by
  by_cases hmin : a = -9223372036854775808
  · subst hmin
    obtain ⟨SG, hSG⟩ : ∃ s, sgZ (-9223372036854775808) = s := ⟨_, rfl⟩
    obtain ⟨MG, hMG⟩ : ∃ l, nats (magZ (-9223372036854775808)) = l := ⟨_, rfl⟩
    rw [hSG, hMG]
    have HSG := Lib.hid hSG
    have HMG := Lib.hid hMG
    clear hSG hMG
    go_enter Try.func55, Try.ntmps55
    have HB_0 := Lib.hid ((Below.refl w.heap.size w).alloc (Nat.le_refl _) (.cells #[.bool false, .slice none 0 0] 31))
    have K0_0 := Lib.hid (Held.new_at w (w.heap.size) (.bool false) (.slice none 0 0) 31 (by first | rfl | simp))
    go_wp2_with fail
    have hr := least_row (w.alloc (.cells #[.bool false, .slice none 0 0] 31)) 3
    rw [show (w.alloc (.cells #[.bool false, .slice none 0 0] 31)).heap.size = w.heap.size + 1 by simp] at hr
    refine (l03Make_at true (some ⟨w.heap.size + 1, 0, none⟩) 3 3 [854775808, 223372036, 9] (-9223372036854775808) least_val _ hr least_digs (Nat.le_refl _) (by unfold maxLen; omega) (by simp)).mono ?_
    rintro e w9 ⟨v9, rfl, ho9, hb⟩
    rw [HSG.out]
    rw [HMG.out] at ho9
    obtain ⟨A9, c9, rfl⟩ := ho9.shape
    have HO9 := Lib.hid ho9
    clear ho9 hr
    have K0_1 := Lib.hid ((K0_0.out.alloc _).after hb)
    have HB_1 := Lib.hid ((HB_0.out.alloc HB_0.out.size _).trans (hb.mono (by simp; omega)))
    clear hb
    have hk0c0_1 := K0_1.out.c0
    have hk0c1_1 := K0_1.out.c1
    have hk0f0_1 := K0_1.out.f0
    have hk0f1_1 := K0_1.out.f1
    go_wp2
    have hr0 := K0_1.out.c0
    have hr1 := K0_1.out.c1
    exact bodyPost_ret (v := .agg #[.bool SG, .slice A9 MG.length c9]) (by simp [results, Try.results55, go_sem, hr0, hr1]) rfl (ownRB_close HB_1.out HO9.out (by simp; omega) (by omega))
  by_cases hneg : a < 0
  · have hlo : -9223372036854775808 < a := by omega
    have HH := Lib.hid (show signed true (val (dig (-a).toNat)) = a by rw [val_dig]; simp [signed]; omega)
    obtain ⟨SG, hSG⟩ : ∃ s, sgZ a = s := ⟨_, rfl⟩
    obtain ⟨MG, hMG⟩ : ∃ l, nats (magZ a) = l := ⟨_, rfl⟩
    rw [hSG, hMG]
    have HSG := Lib.hid hSG
    have HMG := Lib.hid hMG
    clear hSG hMG
    go_enter Try.func55, Try.ntmps55
    have HB_0 := Lib.hid ((Below.refl w.heap.size w).alloc (Nat.le_refl _) (.cells #[.bool false, .slice none 0 0] 31))
    have K0_0 := Lib.hid (Held.new_at w (w.heap.size) (.bool false) (.slice none 0 0) 31 (by first | rfl | simp))
    go_wp2_with fail
    refine (natOf_spec (-a) _ (by omega)).mono ?_
    rintro e w1 ⟨v, rfl, ho, hb⟩
    obtain ⟨A1, c1, rfl⟩ := ho.shape
    have HO1 := Lib.hid ho
    clear ho
    have K0_1 := Lib.hid (K0_0.out.after hb)
    have HB_1 := Lib.hid (HB_0.out.trans (hb.mono HB_0.out.size))
    clear hb
    go_wp2_with fail
    refine (l03Make_at true A1 _ c1 _ a HH.out _ HO1.out.row (dig_can _).1 HO1.out.cap.1 HO1.out.cap.2 HO1.out.nil_cap).mono ?_
    rintro e w9 ⟨v9, rfl, ho9, hb⟩
    rw [HSG.out]
    rw [HMG.out] at ho9
    obtain ⟨A9, c9, rfl⟩ := ho9.shape
    have HO9 := Lib.hid ho9
    clear ho9
    have K0_2 := Lib.hid (K0_1.out.after hb)
    have HB_2 := Lib.hid (HB_1.out.trans (hb.mono HB_1.out.size))
    clear hb
    have hk0c0_2 := K0_2.out.c0
    have hk0c1_2 := K0_2.out.c1
    have hk0f0_2 := K0_2.out.f0
    have hk0f1_2 := K0_2.out.f1
    go_wp2
    have hr0 := K0_2.out.c0
    have hr1 := K0_2.out.c1
    exact bodyPost_ret (v := .agg #[.bool SG, .slice A9 MG.length c9]) (by simp [results, Try.results55, go_sem, hr0, hr1]) rfl (ownRB_close HB_2.out HO9.out K0_1.out.lt (by omega))
  · have hlo : 0 ≤ a := by omega
    have HH := Lib.hid (show signed false (val (dig (a).toNat)) = a by rw [val_dig]; simp [signed]; omega)
    obtain ⟨SG, hSG⟩ : ∃ s, sgZ a = s := ⟨_, rfl⟩
    obtain ⟨MG, hMG⟩ : ∃ l, nats (magZ a) = l := ⟨_, rfl⟩
    rw [hSG, hMG]
    have HSG := Lib.hid hSG
    have HMG := Lib.hid hMG
    clear hSG hMG
    go_enter Try.func55, Try.ntmps55
    have HB_0 := Lib.hid ((Below.refl w.heap.size w).alloc (Nat.le_refl _) (.cells #[.bool false, .slice none 0 0] 31))
    have K0_0 := Lib.hid (Held.new_at w (w.heap.size) (.bool false) (.slice none 0 0) 31 (by first | rfl | simp))
    go_wp2_with fail
    refine (natOf_spec (a) _ (by omega)).mono ?_
    rintro e w1 ⟨v, rfl, ho, hb⟩
    obtain ⟨A1, c1, rfl⟩ := ho.shape
    have HO1 := Lib.hid ho
    clear ho
    have K0_1 := Lib.hid (K0_0.out.after hb)
    have HB_1 := Lib.hid (HB_0.out.trans (hb.mono HB_0.out.size))
    clear hb
    go_wp2_with fail
    refine (l03Make_at false A1 _ c1 _ a HH.out _ HO1.out.row (dig_can _).1 HO1.out.cap.1 HO1.out.cap.2 HO1.out.nil_cap).mono ?_
    rintro e w9 ⟨v9, rfl, ho9, hb⟩
    rw [HSG.out]
    rw [HMG.out] at ho9
    obtain ⟨A9, c9, rfl⟩ := ho9.shape
    have HO9 := Lib.hid ho9
    clear ho9
    have K0_2 := Lib.hid (K0_1.out.after hb)
    have HB_2 := Lib.hid (HB_1.out.trans (hb.mono HB_1.out.size))
    clear hb
    have hk0c0_2 := K0_2.out.c0
    have hk0c1_2 := K0_2.out.c1
    have hk0f0_2 := K0_2.out.f0
    have hk0f1_2 := K0_2.out.f1
    go_wp2
    have hr0 := K0_2.out.c0
    have hr1 := K0_2.out.c1
    exact bodyPost_ret (v := .agg #[.bool SG, .slice A9 MG.length c9]) (by simp [results, Try.results55, go_sem, hr0, hr1]) rfl (ownRB_close HB_2.out HO9.out K0_1.out.lt (by omega))
set_option maxRecDepth 100000 in
set_option maxHeartbeats 4000000 in
theorem bigIntOf_impl (a : Int) (w : World) (ha : -9223372036854775808 ≤ a ∧ a ≤ 9223372036854775807) :
    Calls Try.prog 75 #[.int .i64 a] w (OwnRB 3 (sgZ a) (nats (magZ a)) w) := by
  by_cases hpos : 0 ≤ a
  · rw [show sgZ a = false by unfold sgZ; simp; omega]
    have HMG := Lib.hid (show nats (dig a.toNat) = nats (magZ a) by unfold magZ; rw [capd_of (int_small ha)]; congr 2; omega)
    have HSG := Lib.hid (show sgZ a = false by unfold sgZ; simp; omega)
    go_enter Try.func75, Try.ntmps75
    have HB_0 := Lib.hid ((Below.refl w.heap.size w).alloc (Nat.le_refl _) (.cells #[.bool false, .slice none 0 0] 31))
    have K0_0 := Lib.hid (Held.new_at w (w.heap.size) (.bool false) (.slice none 0 0) 31 (by first | rfl | simp))
    go_wp2_with fail
    refine (natOf_impl a _ (by omega)).mono ?_
    rintro e w9 ⟨v, rfl, ho, hb⟩
    rw [HMG.out] at ho
    obtain ⟨A9, c9, rfl⟩ := ho.shape
    have HO9 := Lib.hid ho
    clear ho
    have K0_1 := Lib.hid (K0_0.out.after hb)
    have HB_1 := Lib.hid (HB_0.out.trans (hb.mono HB_0.out.size))
    clear hb
    have hk0c0_1 := K0_1.out.c0
    have hk0c1_1 := K0_1.out.c1
    have hk0f0_1 := K0_1.out.f0
    have hk0f1_1 := K0_1.out.f1
    go_wp2
    have hr0 := K0_1.out.c0
    have hr1 := K0_1.out.c1
    exact bodyPost_ret (v := .agg #[.bool false, .slice A9 (nats (magZ a)).length c9]) (by simp [results, Try.results75, go_sem, hr0, hr1]) rfl (ownRB_close HB_1.out HO9.out K0_0.out.lt (by omega))
  · have hz : a < 0 := by omega
    have hX : (-(a + 1)).toNat < 1000000000 ^ 4 := by omega
    have hok1 := okI_of_nats (dig_can (-(a + 1)).toNat) (Nat.le_trans (dig_len hX) (by decide))
    have hok2 := okI_of_nats (dig_can (1 : Int).toNat) (Nat.le_trans (dig_len (n := (1 : Int).toNat) (k := 1) (by decide)) (by decide))
    have HOK1 := Lib.hid hok1
    have HOK2 := Lib.hid hok2
    have HMG := Lib.hid (show nats (addN ((dig (-(a + 1)).toNat).map fun d : Nat => (d : Int)) ((dig (1 : Int).toNat).map fun d : Nat => (d : Int))) = nats (magZ a) by rw [addN_yes hok1 hok2, toN_nats, toN_nats, val_dig, val_dig]; unfold magZ; congr 2; omega)
    have HSG := Lib.hid (show sgZ a = true by have e : a = signed true a.natAbs := (by simp [signed]; omega); rw [e, sgZ_signed, capd_of (int_small ha)]; have : 0 < (dig a.natAbs).length := List.length_pos_iff.mpr (dig_ne (by omega)); simp [this])
    have hsg := HSG.out
    rw [hsg]
    clear hsg hok1 hok2 hX
    go_enter Try.func75, Try.ntmps75
    have HB_0 := Lib.hid ((Below.refl w.heap.size w).alloc (Nat.le_refl _) (.cells #[.bool false, .slice none 0 0] 31))
    have K0_0 := Lib.hid (Held.new_at w (w.heap.size) (.bool false) (.slice none 0 0) 31 (by first | rfl | simp))
    go_wp2_with fail
    refine (natOf_impl (-(a + 1)) _ (by omega)).mono ?_
    rintro e w1 ⟨v, rfl, ho, hb⟩
    obtain ⟨A1, c1, rfl⟩ := ho.shape
    have HO1 := Lib.hid ho
    clear ho
    have K0_1 := Lib.hid (K0_0.out.after hb)
    have HB_1 := Lib.hid (HB_0.out.trans (hb.mono HB_0.out.size))
    clear hb
    go_wp2_with fail
    refine (natOf_impl 1 _ (by omega)).mono ?_
    rintro e w2 ⟨v, rfl, ho, hb⟩
    obtain ⟨A2, c2, rfl⟩ := ho.shape
    have HO2 := Lib.hid ho
    clear ho
    have K0_2 := Lib.hid (K0_1.out.after hb)
    have HO1_2 := Lib.hid (OwnV.below (w := w1) HO1.out hb)
    have HB_2 := Lib.hid (HB_1.out.trans (hb.mono HB_1.out.size))
    clear hb
    go_wp2_with fail
    refine (natAdd_impl A1 A2 _ c1 _ c2 _ _ _ HO1_2.out.row HO2.out.row (by have := HO1_2.out.cap; omega) (by have := HO2.out.cap; omega)).mono ?_
    rintro e w9 ⟨v, rfl, ho, hb⟩
    rw [HMG.out] at ho
    obtain ⟨A9, c9, rfl⟩ := ho.shape
    have HO9 := Lib.hid ho
    clear ho
    have K0_3 := Lib.hid (K0_2.out.after hb)
    have HB_3 := Lib.hid (HB_2.out.trans (hb.mono HB_2.out.size))
    clear hb
    have hk0c0_3 := K0_3.out.c0
    have hk0c1_3 := K0_3.out.c1
    have hk0f0_3 := K0_3.out.f0
    have hk0f1_3 := K0_3.out.f1
    go_wp2
    have hr0 := K0_3.out.c0
    have hr1 := K0_3.out.c1
    exact bodyPost_ret (v := .agg #[.bool true, .slice A9 (nats (magZ a)).length c9]) (by simp [results, Try.results75, go_sem, hr0, hr1]) rfl (ownRB_close HB_3.out HO9.out K0_2.out.lt (by omega))
end Go.Proofs.Ytdilbhkdkppodaa
