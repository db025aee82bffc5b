/- Big integers: BigIntNeg, BigIntAdd and BigIntSub of the model and of the program. Conditions: none. -/
import Derived.Test.YthijfjjeklmemaaProg
import Derived.Test.YthijfjjeklmemaaBigMake
namespace Go.Proofs.Ythijfjjeklmemaa
open Go.RowKit Nt
set_option linter.unusedVariables false

set_option maxRecDepth 100000 in
set_option maxHeartbeats 4000000 in
theorem l03Add_same (s : Bool) (A B : Option Addr) (n c m d : Nat) (ds es : List Nat) (w : World) (hA : VRow w A n (nats ds)) (hB : VRow w B m (nats es)) (hds : Canon ds) (hes : Canon es) (hn : n ≤ 60) (hm : m ≤ 60) :
    Calls Try.prog 51 #[.agg #[.bool s, .slice A n c], .agg #[.bool s, .slice B m d]] w (OwnRB 3 (sgZ (signed s (val ds) + signed s (val es))) (nats (magZ (signed s (val ds) + signed s (val es)))) w) := by
  obtain ⟨z, hz⟩ : ∃ z, signed s (val ds) + signed s (val es) = z := ⟨_, rfl⟩
  rw [hz]
  have HZ := Lib.hid hz
  clear hz
  have HA := Lib.hid hA
  have HB := Lib.hid hB
  have HD := Lib.hid hds
  have HE := Lib.hid hes
  clear hA hB hds hes
  go_enter Try.func51, Try.ntmps51
  have HB_0 := Lib.hid ((((Below.refl w.heap.size w).alloc (Nat.le_refl _) (.cells #[.bool s, .slice A n c] 27)).alloc (by simp) (.cells #[.bool s, .slice B m d] 27)).alloc (by simp; omega) (.cells #[.bool false, .slice none 0 0] 27))
  have K0_0 := Lib.hid (((Held.new_at w (w.heap.size) (.bool s) (.slice A n c) 27 (by first | rfl | simp)).alloc (.cells #[.bool s, .slice B m d] 27)).alloc (.cells #[.bool false, .slice none 0 0] 27))
  have K1_0 := Lib.hid ((Held.new_at (w.alloc (.cells #[.bool s, .slice A n c] 27)) (w.heap.size + 1) (.bool s) (.slice B m d) 27 (by first | rfl | simp)).alloc (.cells #[.bool false, .slice none 0 0] 27))
  have K2_0 := Lib.hid (Held.new_at ((w.alloc (.cells #[.bool s, .slice A n c] 27)).alloc (.cells #[.bool s, .slice B m d] 27)) (w.heap.size + 1 + 1) (.bool false) (.slice none 0 0) 27 (by first | rfl | simp))
  have hne01 : w.heap.size ≠ w.heap.size + 1 := by omega
  have hne02 : w.heap.size ≠ w.heap.size + 1 + 1 := by omega
  have hne10 : w.heap.size + 1 ≠ w.heap.size := by omega
  have hne12 : w.heap.size + 1 ≠ w.heap.size + 1 + 1 := by omega
  have hne20 : w.heap.size + 1 + 1 ≠ w.heap.size := by omega
  have hne21 : w.heap.size + 1 + 1 ≠ w.heap.size + 1 := by omega
  go_wp2
  go_region_held3 (fun w' => w'.cell? ⟨w.heap.size, 0, none⟩ = some (.bool s) ∧ w'.cell? ⟨w.heap.size, 1, none⟩ = some (.slice A n c) ∧ w'.cell? ⟨w.heap.size + 1, 1, none⟩ = some (.slice B m d)) (go_keep)
    (first
      | (go_at_call 59
         refine (l02Add_any A B n c m d ds es _ ?_ ?_ HD.out.1 HE.out.1 ?_ ?_).mono ?_
         exact (HA.out.below HB_0.out.drew (Nat.le_refl _))
         exact (HB.out.below HB_0.out.drew (Nat.le_refl _))
         omega
         omega
         rintro e w1 ⟨rs, hrs, hv, v, rfl, ho, hb⟩
         obtain ⟨A1, c1, rfl⟩ := ho.shape
         have HRS := Lib.hid hrs
         have HRV := Lib.hid hv
         have HO1 := Lib.hid ho
         clear hrs hv ho
         have K0_1 := Lib.hid (K0_0.out.drew.after hb)
         have K1_1 := Lib.hid (K1_0.out.drew.after hb)
         have K2_1 := Lib.hid (K2_0.out.drew.after hb)
         have HB_1 := Lib.hid (HB_0.out.drew.trans (hb.mono HB_0.out.drew.size))
         clear hb
         have hk0c0_1 := K0_1.out.c0
         have hk0c1_1 := K0_1.out.c1
         have hk1c1_1 := K1_1.out.c1)
      | (go_at_call 43
         refine (l03Make_at s A1 _ c1 rs z (by rw [HRV.out, signed_add]; exact HZ.out) _ HO1.out.row HRS.out HO1.out.cap.1 HO1.out.cap.2 HO1.out.nil_cap).mono ?_
         rintro e w9 ⟨v9, rfl, ho9, hb⟩
         obtain ⟨A9, c9, rfl⟩ := ho9.shape
         have HO9 := Lib.hid ho9
         clear ho9
         have K0_2 := Lib.hid (K0_1.out.after hb)
         have K1_2 := Lib.hid (K1_1.out.after hb)
         have K2_2 := Lib.hid (K2_1.out.after hb)
         have H1_2 := Lib.hid (OwnV.below (w := w1) HO1.out hb)
         have HB_2 := Lib.hid (HB_1.out.trans (hb.mono HB_1.out.size))
         clear hb
         have hk0c0_2 := K0_2.out.c0
         have hk0c1_2 := K0_2.out.c1
         have hk1c1_2 := K1_2.out.c1
         have hk2c0_2 := K2_2.out.c0
         have hk2c1_2 := K2_2.out.c1
         have hk2f0_2 := K2_2.out.f0
         have hk2f1_2 := K2_2.out.f1))
  go_wp2
  have hr0 := K2_2.out.c0
  have hr1 := K2_2.out.c1
  exact bodyPost_ret (v := .agg #[.bool (sgZ z), .slice A9 (nats (magZ z)).length c9]) (by simp [results, Try.results51, go_sem, hr0, hr1]) rfl (ownRB_close HB_2.out HO9.out K2_1.out.lt (by omega))
set_option maxRecDepth 100000 in
set_option maxHeartbeats 4000000 in
theorem l03Add_true (A B : Option Addr) (n c m d : Nat) (ds es : List Nat) (w : World) (hA : VRow w A n (nats ds)) (hB : VRow w B m (nats es)) (hds : Canon ds) (hes : Canon es) (hn : n ≤ 60) (hm : m ≤ 60) :
    Calls Try.prog 51 #[.agg #[.bool true, .slice A n c], .agg #[.bool false, .slice B m d]] w (OwnRB 3 (sgZ (signed true (val ds) + signed false (val es))) (nats (magZ (signed true (val ds) + signed false (val es)))) w) := by
  obtain ⟨z, hz⟩ : ∃ z, signed true (val ds) + signed false (val es) = z := ⟨_, rfl⟩
  rw [hz]
  have HZ := Lib.hid hz
  clear hz
  have hl : ds.length = n := by simpa [nats_len] using hA.1
  have hl2 : es.length = m := by simpa [nats_len] using hB.1
  have HLE := Lib.hid (show val es ≤ val ds → m ≤ n by intro h; have := canon_len hes hds.1 h; omega)
  have HGE := Lib.hid (show val ds < val es → n ≤ m by intro h; have := canon_len hds hes.1 (Nat.le_of_lt h); omega)
  clear hl hl2
  have HA := Lib.hid hA
  have HB := Lib.hid hB
  have HD := Lib.hid hds
  have HE := Lib.hid hes
  clear hA hB hds hes
  go_enter Try.func51, Try.ntmps51
  have HB_0 := Lib.hid ((((Below.refl w.heap.size w).alloc (Nat.le_refl _) (.cells #[.bool true, .slice A n c] 27)).alloc (by simp) (.cells #[.bool false, .slice B m d] 27)).alloc (by simp; omega) (.cells #[.bool false, .slice none 0 0] 27))
  have K0_0 := Lib.hid (((Held.new_at w (w.heap.size) (.bool true) (.slice A n c) 27 (by first | rfl | simp)).alloc (.cells #[.bool false, .slice B m d] 27)).alloc (.cells #[.bool false, .slice none 0 0] 27))
  have K1_0 := Lib.hid ((Held.new_at (w.alloc (.cells #[.bool true, .slice A n c] 27)) (w.heap.size + 1) (.bool false) (.slice B m d) 27 (by first | rfl | simp)).alloc (.cells #[.bool false, .slice none 0 0] 27))
  have K2_0 := Lib.hid (Held.new_at ((w.alloc (.cells #[.bool true, .slice A n c] 27)).alloc (.cells #[.bool false, .slice B m d] 27)) (w.heap.size + 1 + 1) (.bool false) (.slice none 0 0) 27 (by first | rfl | simp))
  have hne01 : w.heap.size ≠ w.heap.size + 1 := by omega
  have hne02 : w.heap.size ≠ w.heap.size + 1 + 1 := by omega
  have hne10 : w.heap.size + 1 ≠ w.heap.size := by omega
  have hne12 : w.heap.size + 1 ≠ w.heap.size + 1 + 1 := by omega
  have hne20 : w.heap.size + 1 + 1 ≠ w.heap.size := by omega
  have hne21 : w.heap.size + 1 + 1 ≠ w.heap.size + 1 := by omega
  go_wp2_with fail
  refine (l02Cmp_any A B n c m d ds es _ (HA.out.below HB_0.out (Nat.le_refl _)) (HB.out.below HB_0.out (Nat.le_refl _)) HD.out HE.out (by unfold maxLen; omega) (by unfold maxLen; omega)).mono ?_
  rintro e w0 ⟨rfl, hb⟩
  have K0_1 := Lib.hid (K0_0.out.after hb)
  have K1_1 := Lib.hid (K1_0.out.after hb)
  have K2_1 := Lib.hid (K2_0.out.after hb)
  have HB_1 := Lib.hid (HB_0.out.trans (hb.mono HB_0.out.size))
  clear hb
  have hk0c0_1 := K0_1.out.c0
  have hk0c1_1 := K0_1.out.c1
  have hk1c0_1 := K1_1.out.c0
  have hk1c1_1 := K1_1.out.c1
  have hk2c0_1 := K2_1.out.c0
  have hk2c1_1 := K2_1.out.c1
  have hk2f0_1 := K2_1.out.f0
  have hk2f1_1 := K2_1.out.f1
  by_cases hge : val es ≤ val ds
  · obtain ⟨q, hq⟩ : ∃ q : Int, sgn (val ds) (val es) = q := ⟨_, rfl⟩
    have hq0 : 0 ≤ q := by rw [← hq]; unfold sgn; split; omega; split <;> omega
    have hq1 : ¬ q < 0 := by omega
    rw [hq]
    clear hq
    have HGV := Lib.hid hge
    clear hge
    go_wp2
    go_region_held3 (fun w' => w'.cell? ⟨w.heap.size, 0, none⟩ = some (.bool true) ∧ w'.cell? ⟨w.heap.size, 1, none⟩ = some (.slice A n c) ∧ w'.cell? ⟨w.heap.size + 1, 1, none⟩ = some (.slice B m d)) (go_keep)
      (first
        | (go_at_call 60
           refine (l02Sub_any A B n c m d ds es _ ?_ ?_ HD.out.1 HE.out.1 ?_ ?_ ?_).mono ?_
           exact (HA.out.below HB_1.out.drew (Nat.le_refl _))
           exact (HB.out.below HB_1.out.drew (Nat.le_refl _))
           exact HLE.out HGV.out
           exact HGV.out
           omega
           rintro e w1 ⟨v, rfl, ho, hb⟩
           obtain ⟨A1, c1, rfl⟩ := ho.shape
           have HRS := Lib.hid (dig_can (val ds - val es)).1
           have HO1 := Lib.hid ho
           clear ho
           have K0_2 := Lib.hid (K0_1.out.drew.after hb)
           have K1_2 := Lib.hid (K1_1.out.drew.after hb)
           have K2_2 := Lib.hid (K2_1.out.drew.after hb)
           have HB_2 := Lib.hid (HB_1.out.drew.trans (hb.mono HB_1.out.drew.size))
           clear hb
           have hk0c0_2 := K0_2.out.c0
           have hk0c1_2 := K0_2.out.c1
           have hk1c1_2 := K1_2.out.c1)
        | (go_at_call 43
           refine (l03Make_at true A1 _ c1 _ z (by rw [val_dig, signed_sub _ _ _ HGV.out]; exact HZ.out) _ HO1.out.row HRS.out HO1.out.cap.1 HO1.out.cap.2 HO1.out.nil_cap).mono ?_
           rintro e w9 ⟨v9, rfl, ho9, hb⟩
           obtain ⟨A9, c9, rfl⟩ := ho9.shape
           have HO9 := Lib.hid ho9
           clear ho9
           have K0_3 := Lib.hid (K0_2.out.after hb)
           have K1_3 := Lib.hid (K1_2.out.after hb)
           have K2_3 := Lib.hid (K2_2.out.after hb)
           have H1_3 := Lib.hid (OwnV.below (w := w1) HO1.out hb)
           have HB_3 := Lib.hid (HB_2.out.trans (hb.mono HB_2.out.size))
           clear hb
           have hk0c0_3 := K0_3.out.c0
           have hk0c1_3 := K0_3.out.c1
           have hk1c1_3 := K1_3.out.c1
           have hk2c0_3 := K2_3.out.c0
           have hk2c1_3 := K2_3.out.c1
           have hk2f0_3 := K2_3.out.f0
           have hk2f1_3 := K2_3.out.f1))
    go_wp2
    have hr0 := K2_3.out.c0
    have hr1 := K2_3.out.c1
    exact bodyPost_ret (v := .agg #[.bool (sgZ z), .slice A9 (nats (magZ z)).length c9]) (by simp [results, Try.results51, go_sem, hr0, hr1]) rfl (ownRB_close HB_3.out HO9.out K2_2.out.lt (by omega))
  · have hlt : val ds < val es := by omega
    rw [sgn_lt hlt]
    have HGV := Lib.hid hlt
    clear hlt hge
    go_wp2
    go_region_held3 (fun w' => w'.cell? ⟨w.heap.size + 1, 0, none⟩ = some (.bool false) ∧ w'.cell? ⟨w.heap.size + 1, 1, none⟩ = some (.slice B m d) ∧ w'.cell? ⟨w.heap.size, 1, none⟩ = some (.slice A n c)) (go_keep)
      (first
        | (go_at_call 60
           refine (l02Sub_any B A m d n c es ds _ ?_ ?_ HE.out.1 HD.out.1 ?_ ?_ ?_).mono ?_
           exact (HB.out.below HB_1.out.drew (Nat.le_refl _))
           exact (HA.out.below HB_1.out.drew (Nat.le_refl _))
           exact HGE.out HGV.out
           exact Nat.le_of_lt HGV.out
           omega
           rintro e w1 ⟨v, rfl, ho, hb⟩
           obtain ⟨A1, c1, rfl⟩ := ho.shape
           have HRS := Lib.hid (dig_can (val es - val ds)).1
           have HO1 := Lib.hid ho
           clear ho
           have K0_2 := Lib.hid (K0_1.out.drew.after hb)
           have K1_2 := Lib.hid (K1_1.out.drew.after hb)
           have K2_2 := Lib.hid (K2_1.out.drew.after hb)
           have HB_2 := Lib.hid (HB_1.out.drew.trans (hb.mono HB_1.out.drew.size))
           clear hb
           have hk1c0_2 := K1_2.out.c0
           have hk1c1_2 := K1_2.out.c1
           have hk0c1_2 := K0_2.out.c1)
        | (go_at_call 43
           refine (l03Make_at false A1 _ c1 _ z (by rw [val_dig, signed_sub _ _ _ (Nat.le_of_lt HGV.out), Int.add_comm]; exact HZ.out) _ HO1.out.row HRS.out HO1.out.cap.1 HO1.out.cap.2 HO1.out.nil_cap).mono ?_
           rintro e w9 ⟨v9, rfl, ho9, hb⟩
           obtain ⟨A9, c9, rfl⟩ := ho9.shape
           have HO9 := Lib.hid ho9
           clear ho9
           have K0_3 := Lib.hid (K0_2.out.after hb)
           have K1_3 := Lib.hid (K1_2.out.after hb)
           have K2_3 := Lib.hid (K2_2.out.after hb)
           have H1_3 := Lib.hid (OwnV.below (w := w1) HO1.out hb)
           have HB_3 := Lib.hid (HB_2.out.trans (hb.mono HB_2.out.size))
           clear hb
           have hk1c0_3 := K1_3.out.c0
           have hk1c1_3 := K1_3.out.c1
           have hk0c1_3 := K0_3.out.c1
           have hk2c0_3 := K2_3.out.c0
           have hk2c1_3 := K2_3.out.c1
           have hk2f0_3 := K2_3.out.f0
           have hk2f1_3 := K2_3.out.f1))
    go_wp2
    have hr0 := K2_3.out.c0
    have hr1 := K2_3.out.c1
    exact bodyPost_ret (v := .agg #[.bool (sgZ z), .slice A9 (nats (magZ z)).length c9]) (by simp [results, Try.results51, go_sem, hr0, hr1]) rfl (ownRB_close HB_3.out HO9.out K2_2.out.lt (by omega))
set_option maxRecDepth 100000 in
set_option maxHeartbeats 4000000 in
theorem l03Add_false (A B : Option Addr) (n c m d : Nat) (ds es : List Nat) (w : World) (hA : VRow w A n (nats ds)) (hB : VRow w B m (nats es)) (hds : Canon ds) (hes : Canon es) (hn : n ≤ 60) (hm : m ≤ 60) :
    Calls Try.prog 51 #[.agg #[.bool false, .slice A n c], .agg #[.bool true, .slice B m d]] w (OwnRB 3 (sgZ (signed false (val ds) + signed true (val es))) (nats (magZ (signed false (val ds) + signed true (val es)))) w) := by
  obtain ⟨z, hz⟩ : ∃ z, signed false (val ds) + signed true (val es) = z := ⟨_, rfl⟩
  rw [hz]
  have HZ := Lib.hid hz
  clear hz
  have hl : ds.length = n := by simpa [nats_len] using hA.1
  have hl2 : es.length = m := by simpa [nats_len] using hB.1
  have HLE := Lib.hid (show val es ≤ val ds → m ≤ n by intro h; have := canon_len hes hds.1 h; omega)
  have HGE := Lib.hid (show val ds < val es → n ≤ m by intro h; have := canon_len hds hes.1 (Nat.le_of_lt h); omega)
  clear hl hl2
  have HA := Lib.hid hA
  have HB := Lib.hid hB
  have HD := Lib.hid hds
  have HE := Lib.hid hes
  clear hA hB hds hes
  go_enter Try.func51, Try.ntmps51
  have HB_0 := Lib.hid ((((Below.refl w.heap.size w).alloc (Nat.le_refl _) (.cells #[.bool false, .slice A n c] 27)).alloc (by simp) (.cells #[.bool true, .slice B m d] 27)).alloc (by simp; omega) (.cells #[.bool false, .slice none 0 0] 27))
  have K0_0 := Lib.hid (((Held.new_at w (w.heap.size) (.bool false) (.slice A n c) 27 (by first | rfl | simp)).alloc (.cells #[.bool true, .slice B m d] 27)).alloc (.cells #[.bool false, .slice none 0 0] 27))
  have K1_0 := Lib.hid ((Held.new_at (w.alloc (.cells #[.bool false, .slice A n c] 27)) (w.heap.size + 1) (.bool true) (.slice B m d) 27 (by first | rfl | simp)).alloc (.cells #[.bool false, .slice none 0 0] 27))
  have K2_0 := Lib.hid (Held.new_at ((w.alloc (.cells #[.bool false, .slice A n c] 27)).alloc (.cells #[.bool true, .slice B m d] 27)) (w.heap.size + 1 + 1) (.bool false) (.slice none 0 0) 27 (by first | rfl | simp))
  have hne01 : w.heap.size ≠ w.heap.size + 1 := by omega
  have hne02 : w.heap.size ≠ w.heap.size + 1 + 1 := by omega
  have hne10 : w.heap.size + 1 ≠ w.heap.size := by omega
  have hne12 : w.heap.size + 1 ≠ w.heap.size + 1 + 1 := by omega
  have hne20 : w.heap.size + 1 + 1 ≠ w.heap.size := by omega
  have hne21 : w.heap.size + 1 + 1 ≠ w.heap.size + 1 := by omega
  go_wp2_with fail
  refine (l02Cmp_any A B n c m d ds es _ (HA.out.below HB_0.out (Nat.le_refl _)) (HB.out.below HB_0.out (Nat.le_refl _)) HD.out HE.out (by unfold maxLen; omega) (by unfold maxLen; omega)).mono ?_
  rintro e w0 ⟨rfl, hb⟩
  have K0_1 := Lib.hid (K0_0.out.after hb)
  have K1_1 := Lib.hid (K1_0.out.after hb)
  have K2_1 := Lib.hid (K2_0.out.after hb)
  have HB_1 := Lib.hid (HB_0.out.trans (hb.mono HB_0.out.size))
  clear hb
  have hk0c0_1 := K0_1.out.c0
  have hk0c1_1 := K0_1.out.c1
  have hk1c0_1 := K1_1.out.c0
  have hk1c1_1 := K1_1.out.c1
  have hk2c0_1 := K2_1.out.c0
  have hk2c1_1 := K2_1.out.c1
  have hk2f0_1 := K2_1.out.f0
  have hk2f1_1 := K2_1.out.f1
  by_cases hge : val es ≤ val ds
  · obtain ⟨q, hq⟩ : ∃ q : Int, sgn (val ds) (val es) = q := ⟨_, rfl⟩
    have hq0 : 0 ≤ q := by rw [← hq]; unfold sgn; split; omega; split <;> omega
    have hq1 : ¬ q < 0 := by omega
    rw [hq]
    clear hq
    have HGV := Lib.hid hge
    clear hge
    go_wp2
    go_region_held3 (fun w' => w'.cell? ⟨w.heap.size, 0, none⟩ = some (.bool false) ∧ w'.cell? ⟨w.heap.size, 1, none⟩ = some (.slice A n c) ∧ w'.cell? ⟨w.heap.size + 1, 1, none⟩ = some (.slice B m d)) (go_keep)
      (first
        | (go_at_call 60
           refine (l02Sub_any A B n c m d ds es _ ?_ ?_ HD.out.1 HE.out.1 ?_ ?_ ?_).mono ?_
           exact (HA.out.below HB_1.out.drew (Nat.le_refl _))
           exact (HB.out.below HB_1.out.drew (Nat.le_refl _))
           exact HLE.out HGV.out
           exact HGV.out
           omega
           rintro e w1 ⟨v, rfl, ho, hb⟩
           obtain ⟨A1, c1, rfl⟩ := ho.shape
           have HRS := Lib.hid (dig_can (val ds - val es)).1
           have HO1 := Lib.hid ho
           clear ho
           have K0_2 := Lib.hid (K0_1.out.drew.after hb)
           have K1_2 := Lib.hid (K1_1.out.drew.after hb)
           have K2_2 := Lib.hid (K2_1.out.drew.after hb)
           have HB_2 := Lib.hid (HB_1.out.drew.trans (hb.mono HB_1.out.drew.size))
           clear hb
           have hk0c0_2 := K0_2.out.c0
           have hk0c1_2 := K0_2.out.c1
           have hk1c1_2 := K1_2.out.c1)
        | (go_at_call 43
           refine (l03Make_at false A1 _ c1 _ z (by rw [val_dig, signed_sub _ _ _ HGV.out]; exact HZ.out) _ HO1.out.row HRS.out HO1.out.cap.1 HO1.out.cap.2 HO1.out.nil_cap).mono ?_
           rintro e w9 ⟨v9, rfl, ho9, hb⟩
           obtain ⟨A9, c9, rfl⟩ := ho9.shape
           have HO9 := Lib.hid ho9
           clear ho9
           have K0_3 := Lib.hid (K0_2.out.after hb)
           have K1_3 := Lib.hid (K1_2.out.after hb)
           have K2_3 := Lib.hid (K2_2.out.after hb)
           have H1_3 := Lib.hid (OwnV.below (w := w1) HO1.out hb)
           have HB_3 := Lib.hid (HB_2.out.trans (hb.mono HB_2.out.size))
           clear hb
           have hk0c0_3 := K0_3.out.c0
           have hk0c1_3 := K0_3.out.c1
           have hk1c1_3 := K1_3.out.c1
           have hk2c0_3 := K2_3.out.c0
           have hk2c1_3 := K2_3.out.c1
           have hk2f0_3 := K2_3.out.f0
           have hk2f1_3 := K2_3.out.f1))
    go_wp2
    have hr0 := K2_3.out.c0
    have hr1 := K2_3.out.c1
    exact bodyPost_ret (v := .agg #[.bool (sgZ z), .slice A9 (nats (magZ z)).length c9]) (by simp [results, Try.results51, go_sem, hr0, hr1]) rfl (ownRB_close HB_3.out HO9.out K2_2.out.lt (by omega))
  · have hlt : val ds < val es := by omega
    rw [sgn_lt hlt]
    have HGV := Lib.hid hlt
    clear hlt hge
    go_wp2
    go_region_held3 (fun w' => w'.cell? ⟨w.heap.size + 1, 0, none⟩ = some (.bool true) ∧ w'.cell? ⟨w.heap.size + 1, 1, none⟩ = some (.slice B m d) ∧ w'.cell? ⟨w.heap.size, 1, none⟩ = some (.slice A n c)) (go_keep)
      (first
        | (go_at_call 60
           refine (l02Sub_any B A m d n c es ds _ ?_ ?_ HE.out.1 HD.out.1 ?_ ?_ ?_).mono ?_
           exact (HB.out.below HB_1.out.drew (Nat.le_refl _))
           exact (HA.out.below HB_1.out.drew (Nat.le_refl _))
           exact HGE.out HGV.out
           exact Nat.le_of_lt HGV.out
           omega
           rintro e w1 ⟨v, rfl, ho, hb⟩
           obtain ⟨A1, c1, rfl⟩ := ho.shape
           have HRS := Lib.hid (dig_can (val es - val ds)).1
           have HO1 := Lib.hid ho
           clear ho
           have K0_2 := Lib.hid (K0_1.out.drew.after hb)
           have K1_2 := Lib.hid (K1_1.out.drew.after hb)
           have K2_2 := Lib.hid (K2_1.out.drew.after hb)
           have HB_2 := Lib.hid (HB_1.out.drew.trans (hb.mono HB_1.out.drew.size))
           clear hb
           have hk1c0_2 := K1_2.out.c0
           have hk1c1_2 := K1_2.out.c1
           have hk0c1_2 := K0_2.out.c1)
        | (go_at_call 43
           refine (l03Make_at true A1 _ c1 _ z (by rw [val_dig, signed_sub _ _ _ (Nat.le_of_lt HGV.out), Int.add_comm]; exact HZ.out) _ HO1.out.row HRS.out HO1.out.cap.1 HO1.out.cap.2 HO1.out.nil_cap).mono ?_
           rintro e w9 ⟨v9, rfl, ho9, hb⟩
           obtain ⟨A9, c9, rfl⟩ := ho9.shape
           have HO9 := Lib.hid ho9
           clear ho9
           have K0_3 := Lib.hid (K0_2.out.after hb)
           have K1_3 := Lib.hid (K1_2.out.after hb)
           have K2_3 := Lib.hid (K2_2.out.after hb)
           have H1_3 := Lib.hid (OwnV.below (w := w1) HO1.out hb)
           have HB_3 := Lib.hid (HB_2.out.trans (hb.mono HB_2.out.size))
           clear hb
           have hk1c0_3 := K1_3.out.c0
           have hk1c1_3 := K1_3.out.c1
           have hk0c1_3 := K0_3.out.c1
           have hk2c0_3 := K2_3.out.c0
           have hk2c1_3 := K2_3.out.c1
           have hk2f0_3 := K2_3.out.f0
           have hk2f1_3 := K2_3.out.f1))
    go_wp2
    have hr0 := K2_3.out.c0
    have hr1 := K2_3.out.c1
    exact bodyPost_ret (v := .agg #[.bool (sgZ z), .slice A9 (nats (magZ z)).length c9]) (by simp [results, Try.results51, go_sem, hr0, hr1]) rfl (ownRB_close HB_3.out HO9.out K2_2.out.lt (by omega))
theorem l03Add_any (s t : Bool) (A B : Option Addr) (n c m d : Nat) (ds es : List Nat) (w : World) (hA : VRow w A n (nats ds)) (hB : VRow w B m (nats es)) (hds : Canon ds) (hes : Canon es) (hn : n ≤ 60) (hm : m ≤ 60) :
    Calls Try.prog 51 #[.agg #[.bool s, .slice A n c], .agg #[.bool t, .slice B m d]] w (OwnRB 3 (sgZ (signed s (val ds) + signed t (val es))) (nats (magZ (signed s (val ds) + signed t (val es)))) w) := by
  cases s <;> cases t
  · exact l03Add_same false A B n c m d ds es w hA hB hds hes hn hm
  · exact l03Add_false A B n c m d ds es w hA hB hds hes hn hm
  · exact l03Add_true A B n c m d ds es w hA hB hds hes hn hm
  · exact l03Add_same true A B n c m d ds es w hA hB hds hes hn hm
set_option maxRecDepth 100000 in
set_option maxHeartbeats 4000000 in
theorem bigIntNeg_spec (s : Bool) (A : Option Addr) (n c : Nat) (xs : List Int) (w : World) (hA : VRow w A n (ints xs)) (hn : n ≤ maxLen) (hcA : n ≤ c ∧ c ≤ maxLen ∧ (A = none → c = 0)) :
    Calls Try.prog 23 #[.agg #[.bool s, .slice A n c]] w (OwnRB 3 (resS (okB s xs) (-(zOf s xs))) (nats (resM (okB s xs) (-(zOf s xs)))) w) := by
  obtain ⟨z, hz⟩ : ∃ z, -(zOf s xs) = z := ⟨_, rfl⟩
  rw [hz]
  have HZ := Lib.hid hz
  clear hz
  obtain ⟨RS, hRS⟩ : ∃ b, resS (okB s xs) z = b := ⟨_, rfl⟩
  obtain ⟨RM, hRM⟩ : ∃ l, resM (okB s xs) z = l := ⟨_, rfl⟩
  rw [hRS, hRM]
  have HRS := Lib.hid hRS
  have HRM := Lib.hid hRM
  clear hRS hRM
  have HA := Lib.hid hA
  have HN := Lib.hid hn
  have HL := Lib.hid (show xs.length = n by simpa [ints] using hA.1)
  clear hA hn
  have HCP := Lib.hid hcA
  clear hcA
  go_enter Try.func23, Try.ntmps23
  have HB_0 := Lib.hid (((Below.refl w.heap.size w).alloc (Nat.le_refl _) (.cells #[.bool s, .slice A n c] 27)).alloc (by simp) (.cells #[.bool false, .slice none 0 0] 27))
  have K0_0 := Lib.hid ((Held.new_at w (w.heap.size) (.bool s) (.slice A n c) 27 (by first | rfl | simp)).alloc (.cells #[.bool false, .slice none 0 0] 27))
  have K1_0 := Lib.hid (Held.new_at (w.alloc (.cells #[.bool s, .slice A n c] 27)) (w.heap.size + 1) (.bool false) (.slice none 0 0) 27 (by first | rfl | simp))
  have hne01 : w.heap.size ≠ w.heap.size + 1 := by omega
  have hne10 : w.heap.size + 1 ≠ w.heap.size := by omega
  go_wp2_with fail
  refine (bigIntOk_spec s A n c xs _ (HA.out.below HB_0.out (Nat.le_refl _)) HN.out).mono ?_
  rintro e w0 ⟨rfl, hb⟩
  have K0_1 := Lib.hid (K0_0.out.after hb)
  have K1_1 := Lib.hid (K1_0.out.after hb)
  have HB_1 := Lib.hid (HB_0.out.trans (hb.mono HB_0.out.size))
  clear hb
  by_cases hok : okB s xs = true
  · rw [hok]
    obtain rfl : RS = sgZ z := by rw [← HRS.out, hok]; simp [resS]
    obtain rfl : RM = magZ z := by rw [← HRM.out, hok]; simp [resM]
    obtain ⟨hex, hcanx, hl60x⟩ := okI_nats (okB_ok hok)
    have hlenx : n ≤ 60 := by have h1 := HL.out; rw [toN_len] at hl60x; omega
    have HAn := Lib.hid (hex ▸ HA.out)
    have HCx := Lib.hid hcanx
    clear hex hcanx hl60x
    have HOK := Lib.hid hok
    clear hok
    have hk1c0_1 := K1_1.out.c0
    have hk1c1_1 := K1_1.out.c1
    have hk1f0_1 := K1_1.out.f0
    have hk1f1_1 := K1_1.out.f1
    have hk0 := K0_1.out.c0
    have hk1 := K0_1.out.c1
    go_wp2_with fail
    refine (l03Make_at (!s) A n c (toN xs) z (by rw [signed_neg]; exact HZ.out) _ (HAn.out.below HB_1.out (Nat.le_refl _)) HCx.out.1 HCP.out.1 HCP.out.2.1 HCP.out.2.2).mono ?_
    rintro e w9 ⟨v9, rfl, ho9, hb⟩
    obtain ⟨A9, c9, rfl⟩ := ho9.shape
    have HO9 := Lib.hid ho9
    clear ho9
    have K0_2 := Lib.hid (K0_1.out.after hb)
    have K1_2 := Lib.hid (K1_1.out.after hb)
    have HB_2 := Lib.hid (HB_1.out.trans (hb.mono HB_1.out.size))
    clear hb
    clear hk1c0_1
    clear hk1c1_1
    clear hk1f0_1
    clear hk1f1_1
    clear hk0
    clear hk1
    have hk1c0_2 := K1_2.out.c0
    have hk1c1_2 := K1_2.out.c1
    have hk1f0_2 := K1_2.out.f0
    have hk1f1_2 := K1_2.out.f1
    go_wp2
    have hr0 := K1_2.out.c0
    have hr1 := K1_2.out.c1
    exact bodyPost_ret (v := .agg #[.bool (sgZ z), .slice A9 (nats (magZ z)).length c9]) (by simp [results, Try.results23, go_sem, hr0, hr1]) rfl (ownRB_close HB_2.out HO9.out K1_1.out.lt (by omega))
  · rw [Bool.not_eq_true] at hok
    rw [hok]
    obtain rfl : RS = false := by rw [← HRS.out, hok]; simp [resS]
    obtain rfl : RM = [] := by rw [← HRM.out, hok]; simp [resM]
    have hk1c0_1 := K1_1.out.c0
    have hk1c1_1 := K1_1.out.c1
    have hk1f0_1 := K1_1.out.f0
    have hk1f1_1 := K1_1.out.f1
    go_wp2
    exact bodyPost_ret (v := .agg #[.bool false, .slice none 0 0]) (by simp [results, Try.results23, go_sem, hk1c0_1, hk1c1_1]) rfl (ownRB_close HB_1.out (OwnV.nil _ (w.heap.size + 1 + 1) _) (Nat.lt_succ_self _) (by omega))
set_option maxRecDepth 100000 in
set_option maxHeartbeats 4000000 in
theorem bigIntAdd_spec (s t : Bool) (A B : Option Addr) (n c m d : Nat) (xs ys : List Int) (w : World) (hA : VRow w A n (ints xs)) (hB : VRow w B m (ints ys)) (hn : n ≤ maxLen) (hm : m ≤ maxLen) :
    Calls Try.prog 25 #[.agg #[.bool s, .slice A n c], .agg #[.bool t, .slice B m d]] w (OwnRB 3 (resS (okB s xs && okB t ys) (zOf s xs + zOf t ys)) (nats (resM (okB s xs && okB t ys) (zOf s xs + zOf t ys))) w) := by
  obtain ⟨z, hz⟩ : ∃ z, zOf s xs + zOf t ys = z := ⟨_, rfl⟩
  rw [hz]
  have HZ := Lib.hid hz
  clear hz
  obtain ⟨RS, hRS⟩ : ∃ b, resS (okB s xs && okB t ys) z = b := ⟨_, rfl⟩
  obtain ⟨RM, hRM⟩ : ∃ l, resM (okB s xs && okB t ys) z = l := ⟨_, rfl⟩
  rw [hRS, hRM]
  have HRS := Lib.hid hRS
  have HRM := Lib.hid hRM
  clear hRS hRM
  have HA := Lib.hid hA
  have HB := Lib.hid hB
  have HN := Lib.hid hn
  have HM := Lib.hid hm
  have HL := Lib.hid (show xs.length = n by simpa [ints] using hA.1)
  have HL2 := Lib.hid (show ys.length = m by simpa [ints] using hB.1)
  clear hA hB hn hm
  go_enter Try.func25, Try.ntmps25
  have HB_0 := Lib.hid ((((Below.refl w.heap.size w).alloc (Nat.le_refl _) (.cells #[.bool s, .slice A n c] 27)).alloc (by simp) (.cells #[.bool t, .slice B m d] 27)).alloc (by simp; omega) (.cells #[.bool false, .slice none 0 0] 27))
  have K0_0 := Lib.hid (((Held.new_at w (w.heap.size) (.bool s) (.slice A n c) 27 (by first | rfl | simp)).alloc (.cells #[.bool t, .slice B m d] 27)).alloc (.cells #[.bool false, .slice none 0 0] 27))
  have K1_0 := Lib.hid ((Held.new_at (w.alloc (.cells #[.bool s, .slice A n c] 27)) (w.heap.size + 1) (.bool t) (.slice B m d) 27 (by first | rfl | simp)).alloc (.cells #[.bool false, .slice none 0 0] 27))
  have K2_0 := Lib.hid (Held.new_at ((w.alloc (.cells #[.bool s, .slice A n c] 27)).alloc (.cells #[.bool t, .slice B m d] 27)) (w.heap.size + 1 + 1) (.bool false) (.slice none 0 0) 27 (by first | rfl | simp))
  have hne01 : w.heap.size ≠ w.heap.size + 1 := by omega
  have hne02 : w.heap.size ≠ w.heap.size + 1 + 1 := by omega
  have hne10 : w.heap.size + 1 ≠ w.heap.size := by omega
  have hne12 : w.heap.size + 1 ≠ w.heap.size + 1 + 1 := by omega
  have hne20 : w.heap.size + 1 + 1 ≠ w.heap.size := by omega
  have hne21 : w.heap.size + 1 + 1 ≠ w.heap.size + 1 := by omega
  go_wp2_with fail
  refine (bigIntOk_spec s A n c xs _ (HA.out.below HB_0.out (Nat.le_refl _)) HN.out).mono ?_
  rintro e w0 ⟨rfl, hb⟩
  have K0_1 := Lib.hid (K0_0.out.after hb)
  have K1_1 := Lib.hid (K1_0.out.after hb)
  have K2_1 := Lib.hid (K2_0.out.after hb)
  have HB_1 := Lib.hid (HB_0.out.trans (hb.mono HB_0.out.size))
  clear hb
  by_cases hok : okB s xs = true
  · rw [hok]
    have hk1c0_1 := K1_1.out.c0
    have hk1c1_1 := K1_1.out.c1
    go_wp2_with fail
    refine (bigIntOk_spec t B m d ys _ (HB.out.below HB_1.out (Nat.le_refl _)) HM.out).mono ?_
    rintro e w01 ⟨rfl, hb⟩
    have K0_2 := Lib.hid (K0_1.out.after hb)
    have K1_2 := Lib.hid (K1_1.out.after hb)
    have K2_2 := Lib.hid (K2_1.out.after hb)
    have HB_2 := Lib.hid (HB_1.out.trans (hb.mono HB_1.out.size))
    clear hb
    clear hk1c0_1
    clear hk1c1_1
    by_cases hok2 : okB t ys = true
    · rw [hok2]
      obtain rfl : RS = sgZ z := by rw [← HRS.out, hok, hok2]; simp [resS]
      obtain rfl : RM = magZ z := by rw [← HRM.out, hok, hok2]; simp [resM]
      obtain ⟨hex, hcanx, hl60x⟩ := okI_nats (okB_ok hok)
      have hlenx : n ≤ 60 := by have h1 := HL.out; rw [toN_len] at hl60x; omega
      have HAn := Lib.hid (hex ▸ HA.out)
      have HCx := Lib.hid hcanx
      clear hex hcanx hl60x
      obtain ⟨hey, hcany, hl60y⟩ := okI_nats (okB_ok hok2)
      have hleny : m ≤ 60 := by have h1 := HL2.out; rw [toN_len] at hl60y; omega
      have HBn := Lib.hid (hey ▸ HB.out)
      have HCy := Lib.hid hcany
      clear hey hcany hl60y
      have HOK := Lib.hid hok
      have HOK2 := Lib.hid hok2
      clear hok hok2
      have hk0c0_2 := K0_2.out.c0
      have hk0c1_2 := K0_2.out.c1
      have hk1c0_2 := K1_2.out.c0
      have hk1c1_2 := K1_2.out.c1
      have hk2c0_2 := K2_2.out.c0
      have hk2c1_2 := K2_2.out.c1
      have hk2f0_2 := K2_2.out.f0
      have hk2f1_2 := K2_2.out.f1
      go_wp2_with fail
      have hzz : signed s (val (toN xs)) + signed t (val (toN ys)) = z := HZ.out
      have h3 := l03Add_any s t A B n c m d (toN xs) (toN ys) w01 (HAn.out.below HB_2.out (Nat.le_refl _)) (HBn.out.below HB_2.out (Nat.le_refl _)) HCx.out HCy.out hlenx hleny
      rw [hzz] at h3
      clear hzz
      refine (h3).mono ?_
      rintro e w9 ⟨v9, rfl, ho9, hb⟩
      obtain ⟨A9, c9, rfl⟩ := ho9.shape
      have HO9 := Lib.hid ho9
      clear ho9
      have K0_3 := Lib.hid (K0_2.out.after hb)
      have K1_3 := Lib.hid (K1_2.out.after hb)
      have K2_3 := Lib.hid (K2_2.out.after hb)
      have HB_3 := Lib.hid (HB_2.out.trans (hb.mono HB_2.out.size))
      clear hb
      clear hk0c0_2
      clear hk0c1_2
      clear hk1c0_2
      clear hk1c1_2
      clear hk2c0_2
      clear hk2c1_2
      clear hk2f0_2
      clear hk2f1_2
      have hk2c0_3 := K2_3.out.c0
      have hk2c1_3 := K2_3.out.c1
      have hk2f0_3 := K2_3.out.f0
      have hk2f1_3 := K2_3.out.f1
      go_wp2
      have hr0 := K2_3.out.c0
      have hr1 := K2_3.out.c1
      exact bodyPost_ret (v := .agg #[.bool (sgZ z), .slice A9 (nats (magZ z)).length c9]) (by simp [results, Try.results25, go_sem, hr0, hr1]) rfl (ownRB_close HB_3.out HO9.out K2_2.out.lt (by omega))
    · rw [Bool.not_eq_true] at hok2
      rw [hok2]
      obtain rfl : RS = false := by rw [← HRS.out, hok, hok2]; simp [resS]
      obtain rfl : RM = [] := by rw [← HRM.out, hok, hok2]; simp [resM]
      have hk2c0_2 := K2_2.out.c0
      have hk2c1_2 := K2_2.out.c1
      have hk2f0_2 := K2_2.out.f0
      have hk2f1_2 := K2_2.out.f1
      go_wp2
      exact bodyPost_ret (v := .agg #[.bool false, .slice none 0 0]) (by simp [results, Try.results25, go_sem, hk2c0_2, hk2c1_2]) rfl (ownRB_close HB_2.out (OwnV.nil _ (w.heap.size + 1 + 1 + 1) _) (Nat.lt_succ_self _) (by omega))
  · rw [Bool.not_eq_true] at hok
    rw [hok]
    obtain rfl : RS = false := by rw [← HRS.out, hok]; simp [resS]
    obtain rfl : RM = [] := by rw [← HRM.out, hok]; simp [resM]
    have hk2c0_1 := K2_1.out.c0
    have hk2c1_1 := K2_1.out.c1
    have hk2f0_1 := K2_1.out.f0
    have hk2f1_1 := K2_1.out.f1
    go_wp2
    exact bodyPost_ret (v := .agg #[.bool false, .slice none 0 0]) (by simp [results, Try.results25, go_sem, hk2c0_1, hk2c1_1]) rfl (ownRB_close HB_1.out (OwnV.nil _ (w.heap.size + 1 + 1 + 1) _) (Nat.lt_succ_self _) (by omega))
set_option maxRecDepth 100000 in
set_option maxHeartbeats 4000000 in
theorem bigIntSub_spec (s t : Bool) (A B : Option Addr) (n c m d : Nat) (xs ys : List Int) (w : World) (hA : VRow w A n (ints xs)) (hB : VRow w B m (ints ys)) (hn : n ≤ maxLen) (hm : m ≤ maxLen) (hcB : m ≤ d ∧ d ≤ maxLen ∧ (B = none → d = 0)) :
    Calls Try.prog 27 #[.agg #[.bool s, .slice A n c], .agg #[.bool t, .slice B m d]] w (OwnRB 3 (resS (okB s xs && okB t ys) (zOf s xs - zOf t ys)) (nats (resM (okB s xs && okB t ys) (zOf s xs - zOf t ys))) w) := by
  obtain ⟨z, hz⟩ : ∃ z, zOf s xs - zOf t ys = z := ⟨_, rfl⟩
  rw [hz]
  have HZ := Lib.hid hz
  clear hz
  obtain ⟨RS, hRS⟩ : ∃ b, resS (okB s xs && okB t ys) z = b := ⟨_, rfl⟩
  obtain ⟨RM, hRM⟩ : ∃ l, resM (okB s xs && okB t ys) z = l := ⟨_, rfl⟩
  rw [hRS, hRM]
  have HRS := Lib.hid hRS
  have HRM := Lib.hid hRM
  clear hRS hRM
  have HA := Lib.hid hA
  have HB := Lib.hid hB
  have HN := Lib.hid hn
  have HM := Lib.hid hm
  have HL := Lib.hid (show xs.length = n by simpa [ints] using hA.1)
  have HL2 := Lib.hid (show ys.length = m by simpa [ints] using hB.1)
  clear hA hB hn hm
  have HCP := Lib.hid hcB
  clear hcB
  go_enter Try.func27, Try.ntmps27
  have HB_0 := Lib.hid ((((Below.refl w.heap.size w).alloc (Nat.le_refl _) (.cells #[.bool s, .slice A n c] 27)).alloc (by simp) (.cells #[.bool t, .slice B m d] 27)).alloc (by simp; omega) (.cells #[.bool false, .slice none 0 0] 27))
  have K0_0 := Lib.hid (((Held.new_at w (w.heap.size) (.bool s) (.slice A n c) 27 (by first | rfl | simp)).alloc (.cells #[.bool t, .slice B m d] 27)).alloc (.cells #[.bool false, .slice none 0 0] 27))
  have K1_0 := Lib.hid ((Held.new_at (w.alloc (.cells #[.bool s, .slice A n c] 27)) (w.heap.size + 1) (.bool t) (.slice B m d) 27 (by first | rfl | simp)).alloc (.cells #[.bool false, .slice none 0 0] 27))
  have K2_0 := Lib.hid (Held.new_at ((w.alloc (.cells #[.bool s, .slice A n c] 27)).alloc (.cells #[.bool t, .slice B m d] 27)) (w.heap.size + 1 + 1) (.bool false) (.slice none 0 0) 27 (by first | rfl | simp))
  have hne01 : w.heap.size ≠ w.heap.size + 1 := by omega
  have hne02 : w.heap.size ≠ w.heap.size + 1 + 1 := by omega
  have hne10 : w.heap.size + 1 ≠ w.heap.size := by omega
  have hne12 : w.heap.size + 1 ≠ w.heap.size + 1 + 1 := by omega
  have hne20 : w.heap.size + 1 + 1 ≠ w.heap.size := by omega
  have hne21 : w.heap.size + 1 + 1 ≠ w.heap.size + 1 := by omega
  go_wp2_with fail
  refine (bigIntOk_spec s A n c xs _ (HA.out.below HB_0.out (Nat.le_refl _)) HN.out).mono ?_
  rintro e w0 ⟨rfl, hb⟩
  have K0_1 := Lib.hid (K0_0.out.after hb)
  have K1_1 := Lib.hid (K1_0.out.after hb)
  have K2_1 := Lib.hid (K2_0.out.after hb)
  have HB_1 := Lib.hid (HB_0.out.trans (hb.mono HB_0.out.size))
  clear hb
  by_cases hok : okB s xs = true
  · rw [hok]
    have hk1c0_1 := K1_1.out.c0
    have hk1c1_1 := K1_1.out.c1
    go_wp2_with fail
    refine (bigIntOk_spec t B m d ys _ (HB.out.below HB_1.out (Nat.le_refl _)) HM.out).mono ?_
    rintro e w01 ⟨rfl, hb⟩
    have K0_2 := Lib.hid (K0_1.out.after hb)
    have K1_2 := Lib.hid (K1_1.out.after hb)
    have K2_2 := Lib.hid (K2_1.out.after hb)
    have HB_2 := Lib.hid (HB_1.out.trans (hb.mono HB_1.out.size))
    clear hb
    clear hk1c0_1
    clear hk1c1_1
    by_cases hok2 : okB t ys = true
    · rw [hok2]
      obtain rfl : RS = sgZ z := by rw [← HRS.out, hok, hok2]; simp [resS]
      obtain rfl : RM = magZ z := by rw [← HRM.out, hok, hok2]; simp [resM]
      obtain ⟨hex, hcanx, hl60x⟩ := okI_nats (okB_ok hok)
      have hlenx : n ≤ 60 := by have h1 := HL.out; rw [toN_len] at hl60x; omega
      have HAn := Lib.hid (hex ▸ HA.out)
      have HCx := Lib.hid hcanx
      clear hex hcanx hl60x
      obtain ⟨hey, hcany, hl60y⟩ := okI_nats (okB_ok hok2)
      have hleny : m ≤ 60 := by have h1 := HL2.out; rw [toN_len] at hl60y; omega
      have HBn := Lib.hid (hey ▸ HB.out)
      have HCy := Lib.hid hcany
      clear hey hcany hl60y
      have HOK := Lib.hid hok
      have HOK2 := Lib.hid hok2
      clear hok hok2
      have hk0c0_2 := K0_2.out.c0
      have hk0c1_2 := K0_2.out.c1
      have hk1c0_2 := K1_2.out.c0
      have hk1c1_2 := K1_2.out.c1
      have hk2c0_2 := K2_2.out.c0
      have hk2c1_2 := K2_2.out.c1
      have hk2f0_2 := K2_2.out.f0
      have hk2f1_2 := K2_2.out.f1
      obtain ⟨y, hy⟩ : ∃ y, -(zOf t ys) = y := ⟨_, rfl⟩
      have HY := Lib.hid hy
      have HBK := Lib.hid (show signed (sgZ y) (val (magZ y)) = y from back_z (by rw [← hy, Int.natAbs_neg]; exact okB_abs HOK2.out))
      have hzz : signed s (val (toN xs)) + signed (sgZ y) (val (magZ y)) = z := by rw [HBK.out, ← HZ.out, ← hy, Int.sub_eq_add_neg]; rfl
      have HZZ := Lib.hid hzz
      clear hzz hy
      have HYL := Lib.hid (show (nats (magZ y)).length ≤ 60 by rw [nats_len]; exact capd_len _)
      go_wp2
      go_region_held3 (fun w' => w'.cell? ⟨w.heap.size, 0, none⟩ = some (.bool s) ∧ w'.cell? ⟨w.heap.size, 1, none⟩ = some (.slice A n c) ∧ w'.cell? ⟨w.heap.size + 1, 0, none⟩ = some (.bool t) ∧ w'.cell? ⟨w.heap.size + 1, 1, none⟩ = some (.slice B m d)) (go_keep)
        (first
          | (go_at_call 23
             have h3 := bigIntNeg_spec t B m d ys w01.drew (HB.out.below HB_2.out.drew (Nat.le_refl _)) HM.out HCP.out
             rw [HY.out, HOK2.out] at h3
             refine h3.mono ?_
             clear h3
             rintro e w1 ⟨v, rfl, ho, hb⟩
             obtain ⟨A1, c1, rfl⟩ := ho.shape
             have HO1 := Lib.hid ho
             clear ho
             have K0_3 := Lib.hid (K0_2.out.drew.after hb)
             have K1_3 := Lib.hid (K1_2.out.drew.after hb)
             have K2_3 := Lib.hid (K2_2.out.drew.after hb)
             have HB_3 := Lib.hid (HB_2.out.drew.trans (hb.mono HB_2.out.drew.size))
             clear hb
             have hk0c0_3 := K0_3.out.c0
             have hk0c1_3 := K0_3.out.c1
             have hk1c0_3 := K1_3.out.c0
             have hk1c1_3 := K1_3.out.c1)
          | (go_at_call 51
             have h3 := l03Add_any s (sgZ y) A A1 n c (nats (magZ y)).length c1 (toN xs) (magZ y) w1 (HAn.out.below HB_3.out (Nat.le_refl _)) HO1.out.row HCx.out (magZ_can y) hlenx HYL.out
             rw [HZZ.out] at h3
             refine h3.mono ?_
             clear h3
             rintro e w9 ⟨v9, rfl, ho9, hb⟩
             obtain ⟨A9, c9, rfl⟩ := ho9.shape
             have HO9 := Lib.hid ho9
             clear ho9
             have K0_4 := Lib.hid (K0_3.out.after hb)
             have K1_4 := Lib.hid (K1_3.out.after hb)
             have K2_4 := Lib.hid (K2_3.out.after hb)
             have HB_4 := Lib.hid (HB_3.out.trans (hb.mono HB_3.out.size))
             clear hb
             have hk0c0_4 := K0_4.out.c0
             have hk0c1_4 := K0_4.out.c1
             have hk1c0_4 := K1_4.out.c0
             have hk1c1_4 := K1_4.out.c1
             have hk2c0_4 := K2_4.out.c0
             have hk2c1_4 := K2_4.out.c1
             have hk2f0_4 := K2_4.out.f0
             have hk2f1_4 := K2_4.out.f1))
      go_wp2
      have hr0 := K2_4.out.c0
      have hr1 := K2_4.out.c1
      exact bodyPost_ret (v := .agg #[.bool (sgZ z), .slice A9 (nats (magZ z)).length c9]) (by simp [results, Try.results27, go_sem, hr0, hr1]) rfl (ownRB_close HB_4.out HO9.out K2_3.out.lt (by omega))
    · rw [Bool.not_eq_true] at hok2
      rw [hok2]
      obtain rfl : RS = false := by rw [← HRS.out, hok, hok2]; simp [resS]
      obtain rfl : RM = [] := by rw [← HRM.out, hok, hok2]; simp [resM]
      have hk2c0_2 := K2_2.out.c0
      have hk2c1_2 := K2_2.out.c1
      have hk2f0_2 := K2_2.out.f0
      have hk2f1_2 := K2_2.out.f1
      go_wp2
      exact bodyPost_ret (v := .agg #[.bool false, .slice none 0 0]) (by simp [results, Try.results27, go_sem, hk2c0_2, hk2c1_2]) rfl (ownRB_close HB_2.out (OwnV.nil _ (w.heap.size + 1 + 1 + 1) _) (Nat.lt_succ_self _) (by omega))
  · rw [Bool.not_eq_true] at hok
    rw [hok]
    obtain rfl : RS = false := by rw [← HRS.out, hok]; simp [resS]
    obtain rfl : RM = [] := by rw [← HRM.out, hok]; simp [resM]
    have hk2c0_1 := K2_1.out.c0
    have hk2c1_1 := K2_1.out.c1
    have hk2f0_1 := K2_1.out.f0
    have hk2f1_1 := K2_1.out.f1
    go_wp2
    exact bodyPost_ret (v := .agg #[.bool false, .slice none 0 0]) (by simp [results, Try.results27, go_sem, hk2c0_1, hk2c1_1]) rfl (ownRB_close HB_1.out (OwnV.nil _ (w.heap.size + 1 + 1 + 1) _) (Nat.lt_succ_self _) (by omega))
end Go.Proofs.Ythijfjjeklmemaa
