/- Big integers: BigIntNeg, BigIntAdd and BigIntSub of the model and of the program. Conditions: none. -/
import Derived.Test.YtdilbhkdkppodaaGreatProg
import Derived.Test.YtdilbhkdkppodaaGreatBigMake
namespace Go.Proofs.YtdilbhkdkppodaaGreat
open Go.RowKit Nt
set_option linter.unusedVariables false

set_option maxRecDepth 100000 in
set_option maxHeartbeats 4000000 in
theorem l03Add_same (s : Bool) (A B : Option Addr) (n c m d : Nat) (ds es : List Nat) (w : World) (hA : VRow w A n (nats ds)) (hB : VRow w B m (nats es)) (hds : Canon ds) (hes : Canon es) (hn : n ≤ 60) (hm : m ≤ 60) :
    Calls Tryz.prog 104 #[.agg #[.bool s, .slice A n c], .agg #[.bool s, .slice B m d]] w (OwnRB 3 (sgZ (signed s (val ds) + signed s (val es))) (nats (magZ (signed s (val ds) + signed s (val es)))) w) := by
  obtain ⟨z, hz⟩ : ∃ z, signed s (val ds) + signed s (val es) = z := ⟨_, rfl⟩
  rw [hz]
  have HZ := Lib.hid hz
  clear hz
  have HA := Lib.hid hA
  have HB := Lib.hid hB
  have HD := Lib.hid hds
  have HE := Lib.hid hes
  clear hA hB hds hes
  go_enter Tryz.func104, Tryz.ntmps104
  have HB_0 := Lib.hid ((((Below.refl w.heap.size w).alloc (Nat.le_refl _) (.cells #[.bool s, .slice A n c] 30)).alloc (by simp) (.cells #[.bool s, .slice B m d] 30)).alloc (by simp; omega) (.cells #[.bool false, .slice none 0 0] 30))
  have K0_0 := Lib.hid (((Held.new_at w (w.heap.size) (.bool s) (.slice A n c) 30 (by first | rfl | simp)).alloc (.cells #[.bool s, .slice B m d] 30)).alloc (.cells #[.bool false, .slice none 0 0] 30))
  have K1_0 := Lib.hid ((Held.new_at (w.alloc (.cells #[.bool s, .slice A n c] 30)) (w.heap.size + 1) (.bool s) (.slice B m d) 30 (by first | rfl | simp)).alloc (.cells #[.bool false, .slice none 0 0] 30))
  have K2_0 := Lib.hid (Held.new_at ((w.alloc (.cells #[.bool s, .slice A n c] 30)).alloc (.cells #[.bool s, .slice B m d] 30)) (w.heap.size + 1 + 1) (.bool false) (.slice none 0 0) 30 (by first | rfl | simp))
  have hne01 : w.heap.size ≠ w.heap.size + 1 := by omega
  have hne02 : w.heap.size ≠ w.heap.size + 1 + 1 := by omega
  have hne10 : w.heap.size + 1 ≠ w.heap.size := by omega
  have hne12 : w.heap.size + 1 ≠ w.heap.size + 1 + 1 := by omega
  have hne20 : w.heap.size + 1 + 1 ≠ w.heap.size := by omega
  have hne21 : w.heap.size + 1 + 1 ≠ w.heap.size + 1 := by omega
  go_wp2
  go_region_held3 (fun w' => w'.cell? ⟨w.heap.size, 0, none⟩ = some (.bool s) ∧ w'.cell? ⟨w.heap.size, 1, none⟩ = some (.slice A n c) ∧ w'.cell? ⟨w.heap.size + 1, 1, none⟩ = some (.slice B m d)) (go_keep)
    (first
      | (go_at_call 129
         refine (l02Add_any A B n c m d ds es _ ?_ ?_ HD.out.1 HE.out.1 ?_ ?_).mono ?_
         exact (HA.out.below HB_0.out.drew (Nat.le_refl _))
         exact (HB.out.below HB_0.out.drew (Nat.le_refl _))
         omega
         omega
         rintro e w1 ⟨rs, hrs, hv, v, rfl, ho, hb⟩
         obtain ⟨A1, c1, rfl⟩ := ho.shape
         have HRS := Lib.hid hrs
         have HRV := Lib.hid hv
         have HO1 := Lib.hid ho
         clear hrs hv ho
         have K0_1 := Lib.hid (K0_0.out.drew.after hb)
         have K1_1 := Lib.hid (K1_0.out.drew.after hb)
         have K2_1 := Lib.hid (K2_0.out.drew.after hb)
         have HB_1 := Lib.hid (HB_0.out.drew.trans (hb.mono HB_0.out.drew.size))
         clear hb
         have hk0c0_1 := K0_1.out.c0
         have hk0c1_1 := K0_1.out.c1
         have hk1c1_1 := K1_1.out.c1)
      | (go_at_call 105
         refine (l03Make_at s A1 _ c1 rs z (by rw [HRV.out, signed_add]; exact HZ.out) _ HO1.out.row HRS.out HO1.out.cap.1 HO1.out.cap.2 HO1.out.nil_cap).mono ?_
         rintro e w9 ⟨v9, rfl, ho9, hb⟩
         obtain ⟨A9, c9, rfl⟩ := ho9.shape
         have HO9 := Lib.hid ho9
         clear ho9
         have K0_2 := Lib.hid (K0_1.out.after hb)
         have K1_2 := Lib.hid (K1_1.out.after hb)
         have K2_2 := Lib.hid (K2_1.out.after hb)
         have H1_2 := Lib.hid (OwnV.below (w := w1) HO1.out hb)
         have HB_2 := Lib.hid (HB_1.out.trans (hb.mono HB_1.out.size))
         clear hb
         have hk0c0_2 := K0_2.out.c0
         have hk0c1_2 := K0_2.out.c1
         have hk1c1_2 := K1_2.out.c1
         have hk2c0_2 := K2_2.out.c0
         have hk2c1_2 := K2_2.out.c1
         have hk2f0_2 := K2_2.out.f0
         have hk2f1_2 := K2_2.out.f1))
  go_wp2
  have hr0 := K2_2.out.c0
  have hr1 := K2_2.out.c1
  exact bodyPost_ret (v := .agg #[.bool (sgZ z), .slice A9 (nats (magZ z)).length c9]) (by simp [results, Tryz.results104, go_sem, hr0, hr1]) rfl (ownRB_close HB_2.out HO9.out K2_1.out.lt (by omega))
set_option maxRecDepth 100000 in
set_option maxHeartbeats 4000000 in
theorem l03Add_true (A B : Option Addr) (n c m d : Nat) (ds es : List Nat) (w : World) (hA : VRow w A n (nats ds)) (hB : VRow w B m (nats es)) (hds : Canon ds) (hes : Canon es) (hn : n ≤ 60) (hm : m ≤ 60) :
    Calls Tryz.prog 104 #[.agg #[.bool true, .slice A n c], .agg #[.bool false, .slice B m d]] w (OwnRB 3 (sgZ (signed true (val ds) + signed false (val es))) (nats (magZ (signed true (val ds) + signed false (val es)))) w) := by
  obtain ⟨z, hz⟩ : ∃ z, signed true (val ds) + signed false (val es) = z := ⟨_, rfl⟩
  rw [hz]
  have HZ := Lib.hid hz
  clear hz
  have hl : ds.length = n := by simpa [nats_len] using hA.1
  have hl2 : es.length = m := by simpa [nats_len] using hB.1
  have HLE := Lib.hid (show val es ≤ val ds → m ≤ n by intro h; have := canon_len hes hds.1 h; omega)
  have HGE := Lib.hid (show val ds < val es → n ≤ m by intro h; have := canon_len hds hes.1 (Nat.le_of_lt h); omega)
  clear hl hl2
  have HA := Lib.hid hA
  have HB := Lib.hid hB
  have HD := Lib.hid hds
  have HE := Lib.hid hes
  clear hA hB hds hes
  go_enter Tryz.func104, Tryz.ntmps104
  have HB_0 := Lib.hid ((((Below.refl w.heap.size w).alloc (Nat.le_refl _) (.cells #[.bool true, .slice A n c] 30)).alloc (by simp) (.cells #[.bool false, .slice B m d] 30)).alloc (by simp; omega) (.cells #[.bool false, .slice none 0 0] 30))
  have K0_0 := Lib.hid (((Held.new_at w (w.heap.size) (.bool true) (.slice A n c) 30 (by first | rfl | simp)).alloc (.cells #[.bool false, .slice B m d] 30)).alloc (.cells #[.bool false, .slice none 0 0] 30))
  have K1_0 := Lib.hid ((Held.new_at (w.alloc (.cells #[.bool true, .slice A n c] 30)) (w.heap.size + 1) (.bool false) (.slice B m d) 30 (by first | rfl | simp)).alloc (.cells #[.bool false, .slice none 0 0] 30))
  have K2_0 := Lib.hid (Held.new_at ((w.alloc (.cells #[.bool true, .slice A n c] 30)).alloc (.cells #[.bool false, .slice B m d] 30)) (w.heap.size + 1 + 1) (.bool false) (.slice none 0 0) 30 (by first | rfl | simp))
  have hne01 : w.heap.size ≠ w.heap.size + 1 := by omega
  have hne02 : w.heap.size ≠ w.heap.size + 1 + 1 := by omega
  have hne10 : w.heap.size + 1 ≠ w.heap.size := by omega
  have hne12 : w.heap.size + 1 ≠ w.heap.size + 1 + 1 := by omega
  have hne20 : w.heap.size + 1 + 1 ≠ w.heap.size := by omega
  have hne21 : w.heap.size + 1 + 1 ≠ w.heap.size + 1 := by omega
  go_wp2_with fail
  refine (l02Cmp_any A B n c m d ds es _ (HA.out.below HB_0.out (Nat.le_refl _)) (HB.out.below HB_0.out (Nat.le_refl _)) HD.out HE.out (by unfold maxLen; omega) (by unfold maxLen; omega)).mono ?_
  rintro e w0 ⟨rfl, hb⟩
  have K0_1 := Lib.hid (K0_0.out.after hb)
  have K1_1 := Lib.hid (K1_0.out.after hb)
  have K2_1 := Lib.hid (K2_0.out.after hb)
  have HB_1 := Lib.hid (HB_0.out.trans (hb.mono HB_0.out.size))
  clear hb
  have hk0c0_1 := K0_1.out.c0
  have hk0c1_1 := K0_1.out.c1
  have hk1c0_1 := K1_1.out.c0
  have hk1c1_1 := K1_1.out.c1
  have hk2c0_1 := K2_1.out.c0
  have hk2c1_1 := K2_1.out.c1
  have hk2f0_1 := K2_1.out.f0
  have hk2f1_1 := K2_1.out.f1
  by_cases hge : val es ≤ val ds
  · obtain ⟨q, hq⟩ : ∃ q : Int, sgn (val ds) (val es) = q := ⟨_, rfl⟩
    have hq0 : 0 ≤ q := by rw [← hq]; unfold sgn; split; omega; split <;> omega
    have hq1 : ¬ q < 0 := by omega
    rw [hq]
    clear hq
    have HGV := Lib.hid hge
    clear hge
    go_wp2
    go_region_held3 (fun w' => w'.cell? ⟨w.heap.size, 0, none⟩ = some (.bool true) ∧ w'.cell? ⟨w.heap.size, 1, none⟩ = some (.slice A n c) ∧ w'.cell? ⟨w.heap.size + 1, 1, none⟩ = some (.slice B m d)) (go_keep)
      (first
        | (go_at_call 131
           refine (l02Sub_any A B n c m d ds es _ ?_ ?_ HD.out.1 HE.out.1 ?_ ?_ ?_).mono ?_
           exact (HA.out.below HB_1.out.drew (Nat.le_refl _))
           exact (HB.out.below HB_1.out.drew (Nat.le_refl _))
           exact HLE.out HGV.out
           exact HGV.out
           omega
           rintro e w1 ⟨v, rfl, ho, hb⟩
           obtain ⟨A1, c1, rfl⟩ := ho.shape
           have HRS := Lib.hid (dig_can (val ds - val es)).1
           have HO1 := Lib.hid ho
           clear ho
           have K0_2 := Lib.hid (K0_1.out.drew.after hb)
           have K1_2 := Lib.hid (K1_1.out.drew.after hb)
           have K2_2 := Lib.hid (K2_1.out.drew.after hb)
           have HB_2 := Lib.hid (HB_1.out.drew.trans (hb.mono HB_1.out.drew.size))
           clear hb
           have hk0c0_2 := K0_2.out.c0
           have hk0c1_2 := K0_2.out.c1
           have hk1c1_2 := K1_2.out.c1)
        | (go_at_call 105
           refine (l03Make_at true A1 _ c1 _ z (by rw [val_dig, signed_sub _ _ _ HGV.out]; exact HZ.out) _ HO1.out.row HRS.out HO1.out.cap.1 HO1.out.cap.2 HO1.out.nil_cap).mono ?_
           rintro e w9 ⟨v9, rfl, ho9, hb⟩
           obtain ⟨A9, c9, rfl⟩ := ho9.shape
           have HO9 := Lib.hid ho9
           clear ho9
           have K0_3 := Lib.hid (K0_2.out.after hb)
           have K1_3 := Lib.hid (K1_2.out.after hb)
           have K2_3 := Lib.hid (K2_2.out.after hb)
           have H1_3 := Lib.hid (OwnV.below (w := w1) HO1.out hb)
           have HB_3 := Lib.hid (HB_2.out.trans (hb.mono HB_2.out.size))
           clear hb
           have hk0c0_3 := K0_3.out.c0
           have hk0c1_3 := K0_3.out.c1
           have hk1c1_3 := K1_3.out.c1
           have hk2c0_3 := K2_3.out.c0
           have hk2c1_3 := K2_3.out.c1
           have hk2f0_3 := K2_3.out.f0
           have hk2f1_3 := K2_3.out.f1))
    go_wp2
    have hr0 := K2_3.out.c0
    have hr1 := K2_3.out.c1
    exact bodyPost_ret (v := .agg #[.bool (sgZ z), .slice A9 (nats (magZ z)).length c9]) (by simp [results, Tryz.results104, go_sem, hr0, hr1]) rfl (ownRB_close HB_3.out HO9.out K2_2.out.lt (by omega))
  · have hlt : val ds < val es := by omega
    rw [sgn_lt hlt]
    have HGV := Lib.hid hlt
    clear hlt hge
    go_wp2
    go_region_held3 (fun w' => w'.cell? ⟨w.heap.size + 1, 0, none⟩ = some (.bool false) ∧ w'.cell? ⟨w.heap.size + 1, 1, none⟩ = some (.slice B m d) ∧ w'.cell? ⟨w.heap.size, 1, none⟩ = some (.slice A n c)) (go_keep)
      (first
        | (go_at_call 131
           refine (l02Sub_any B A m d n c es ds _ ?_ ?_ HE.out.1 HD.out.1 ?_ ?_ ?_).mono ?_
           exact (HB.out.below HB_1.out.drew (Nat.le_refl _))
           exact (HA.out.below HB_1.out.drew (Nat.le_refl _))
           exact HGE.out HGV.out
           exact Nat.le_of_lt HGV.out
           omega
           rintro e w1 ⟨v, rfl, ho, hb⟩
           obtain ⟨A1, c1, rfl⟩ := ho.shape
           have HRS := Lib.hid (dig_can (val es - val ds)).1
           have HO1 := Lib.hid ho
           clear ho
           have K0_2 := Lib.hid (K0_1.out.drew.after hb)
           have K1_2 := Lib.hid (K1_1.out.drew.after hb)
           have K2_2 := Lib.hid (K2_1.out.drew.after hb)
           have HB_2 := Lib.hid (HB_1.out.drew.trans (hb.mono HB_1.out.drew.size))
           clear hb
           have hk1c0_2 := K1_2.out.c0
           have hk1c1_2 := K1_2.out.c1
           have hk0c1_2 := K0_2.out.c1)
        | (go_at_call 105
           refine (l03Make_at false A1 _ c1 _ z (by rw [val_dig, signed_sub _ _ _ (Nat.le_of_lt HGV.out), Int.add_comm]; exact HZ.out) _ HO1.out.row HRS.out HO1.out.cap.1 HO1.out.cap.2 HO1.out.nil_cap).mono ?_
           rintro e w9 ⟨v9, rfl, ho9, hb⟩
           obtain ⟨A9, c9, rfl⟩ := ho9.shape
           have HO9 := Lib.hid ho9
           clear ho9
           have K0_3 := Lib.hid (K0_2.out.after hb)
           have K1_3 := Lib.hid (K1_2.out.after hb)
           have K2_3 := Lib.hid (K2_2.out.after hb)
           have H1_3 := Lib.hid (OwnV.below (w := w1) HO1.out hb)
           have HB_3 := Lib.hid (HB_2.out.trans (hb.mono HB_2.out.size))
           clear hb
           have hk1c0_3 := K1_3.out.c0
           have hk1c1_3 := K1_3.out.c1
           have hk0c1_3 := K0_3.out.c1
           have hk2c0_3 := K2_3.out.c0
           have hk2c1_3 := K2_3.out.c1
           have hk2f0_3 := K2_3.out.f0
           have hk2f1_3 := K2_3.out.f1))
    go_wp2
    have hr0 := K2_3.out.c0
    have hr1 := K2_3.out.c1
    exact bodyPost_ret (v := .agg #[.bool (sgZ z), .slice A9 (nats (magZ z)).length c9]) (by simp [results, Tryz.results104, go_sem, hr0, hr1]) rfl (ownRB_close HB_3.out HO9.out K2_2.out.lt (by omega))
set_option maxRecDepth 100000 in
set_option maxHeartbeats 4000000 in
theorem l03Add_false (A B : Option Addr) (n c m d : Nat) (ds es : List Nat) (w : World) (hA : VRow w A n (nats ds)) (hB : VRow w B m (nats es)) (hds : Canon ds) (hes : Canon es) (hn : n ≤ 60) (hm : m ≤ 60) :
    Calls Tryz.prog 104 #[.agg #[.bool false, .slice A n c], .agg #[.bool true, .slice B m d]] w (OwnRB 3 (sgZ (signed false (val ds) + signed true (val es))) (nats (magZ (signed false (val ds) + signed true (val es)))) w) := by
  obtain ⟨z, hz⟩ : ∃ z, signed false (val ds) + signed true (val es) = z := ⟨_, rfl⟩
  rw [hz]
  have HZ := Lib.hid hz
  clear hz
  have hl : ds.length = n := by simpa [nats_len] using hA.1
  have hl2 : es.length = m := by simpa [nats_len] using hB.1
  have HLE := Lib.hid (show val es ≤ val ds → m ≤ n by intro h; have := canon_len hes hds.1 h; omega)
  have HGE := Lib.hid (show val ds < val es → n ≤ m by intro h; have := canon_len hds hes.1 (Nat.le_of_lt h); omega)
  clear hl hl2
  have HA := Lib.hid hA
  have HB := Lib.hid hB
  have HD := Lib.hid hds
  have HE := Lib.hid hes
  clear hA hB hds hes
  go_enter Tryz.func104, Tryz.ntmps104
  have HB_0 := Lib.hid ((((Below.refl w.heap.size w).alloc (Nat.le_refl _) (.cells #[.bool false, .slice A n c] 30)).alloc (by simp) (.cells #[.bool true, .slice B m d] 30)).alloc (by simp; omega) (.cells #[.bool false, .slice none 0 0] 30))
  have K0_0 := Lib.hid (((Held.new_at w (w.heap.size) (.bool false) (.slice A n c) 30 (by first | rfl | simp)).alloc (.cells #[.bool true, .slice B m d] 30)).alloc (.cells #[.bool false, .slice none 0 0] 30))
  have K1_0 := Lib.hid ((Held.new_at (w.alloc (.cells #[.bool false, .slice A n c] 30)) (w.heap.size + 1) (.bool true) (.slice B m d) 30 (by first | rfl | simp)).alloc (.cells #[.bool false, .slice none 0 0] 30))
  have K2_0 := Lib.hid (Held.new_at ((w.alloc (.cells #[.bool false, .slice A n c] 30)).alloc (.cells #[.bool true, .slice B m d] 30)) (w.heap.size + 1 + 1) (.bool false) (.slice none 0 0) 30 (by first | rfl | simp))
  have hne01 : w.heap.size ≠ w.heap.size + 1 := by omega
  have hne02 : w.heap.size ≠ w.heap.size + 1 + 1 := by omega
  have hne10 : w.heap.size + 1 ≠ w.heap.size := by omega
  have hne12 : w.heap.size + 1 ≠ w.heap.size + 1 + 1 := by omega
  have hne20 : w.heap.size + 1 + 1 ≠ w.heap.size := by omega
  have hne21 : w.heap.size + 1 + 1 ≠ w.heap.size + 1 := by omega
  go_wp2_with fail
  refine (l02Cmp_any A B n c m d ds es _ (HA.out.below HB_0.out (Nat.le_refl _)) (HB.out.below HB_0.out (Nat.le_refl _)) HD.out HE.out (by unfold maxLen; omega) (by unfold maxLen; omega)).mono ?_
  rintro e w0 ⟨rfl, hb⟩
  have K0_1 := Lib.hid (K0_0.out.after hb)
  have K1_1 := Lib.hid (K1_0.out.after hb)
  have K2_1 := Lib.hid (K2_0.out.after hb)
  have HB_1 := Lib.hid (HB_0.out.trans (hb.mono HB_0.out.size))
  clear hb
  have hk0c0_1 := K0_1.out.c0
  have hk0c1_1 := K0_1.out.c1
  have hk1c0_1 := K1_1.out.c0
  have hk1c1_1 := K1_1.out.c1
  have hk2c0_1 := K2_1.out.c0
  have hk2c1_1 := K2_1.out.c1
  have hk2f0_1 := K2_1.out.f0
  have hk2f1_1 := K2_1.out.f1
  by_cases hge : val es ≤ val ds
  · obtain ⟨q, hq⟩ : ∃ q : Int, sgn (val ds) (val es) = q := ⟨_, rfl⟩
    have hq0 : 0 ≤ q := by rw [← hq]; unfold sgn; split; omega; split <;> omega
    have hq1 : ¬ q < 0 := by omega
    rw [hq]
    clear hq
    have HGV := Lib.hid hge
    clear hge
    go_wp2
    go_region_held3 (fun w' => w'.cell? ⟨w.heap.size, 0, none⟩ = some (.bool false) ∧ w'.cell? ⟨w.heap.size, 1, none⟩ = some (.slice A n c) ∧ w'.cell? ⟨w.heap.size + 1, 1, none⟩ = some (.slice B m d)) (go_keep)
      (first
        | (go_at_call 131
           refine (l02Sub_any A B n c m d ds es _ ?_ ?_ HD.out.1 HE.out.1 ?_ ?_ ?_).mono ?_
           exact (HA.out.below HB_1.out.drew (Nat.le_refl _))
           exact (HB.out.below HB_1.out.drew (Nat.le_refl _))
           exact HLE.out HGV.out
           exact HGV.out
           omega
           rintro e w1 ⟨v, rfl, ho, hb⟩
           obtain ⟨A1, c1, rfl⟩ := ho.shape
           have HRS := Lib.hid (dig_can (val ds - val es)).1
           have HO1 := Lib.hid ho
           clear ho
           have K0_2 := Lib.hid (K0_1.out.drew.after hb)
           have K1_2 := Lib.hid (K1_1.out.drew.after hb)
           have K2_2 := Lib.hid (K2_1.out.drew.after hb)
           have HB_2 := Lib.hid (HB_1.out.drew.trans (hb.mono HB_1.out.drew.size))
           clear hb
           have hk0c0_2 := K0_2.out.c0
           have hk0c1_2 := K0_2.out.c1
           have hk1c1_2 := K1_2.out.c1)
        | (go_at_call 105
           refine (l03Make_at false A1 _ c1 _ z (by rw [val_dig, signed_sub _ _ _ HGV.out]; exact HZ.out) _ HO1.out.row HRS.out HO1.out.cap.1 HO1.out.cap.2 HO1.out.nil_cap).mono ?_
           rintro e w9 ⟨v9, rfl, ho9, hb⟩
           obtain ⟨A9, c9, rfl⟩ := ho9.shape
           have HO9 := Lib.hid ho9
           clear ho9
           have K0_3 := Lib.hid (K0_2.out.after hb)
           have K1_3 := Lib.hid (K1_2.out.after hb)
           have K2_3 := Lib.hid (K2_2.out.after hb)
           have H1_3 := Lib.hid (OwnV.below (w := w1) HO1.out hb)
           have HB_3 := Lib.hid (HB_2.out.trans (hb.mono HB_2.out.size))
           clear hb
           have hk0c0_3 := K0_3.out.c0
           have hk0c1_3 := K0_3.out.c1
           have hk1c1_3 := K1_3.out.c1
           have hk2c0_3 := K2_3.out.c0
           have hk2c1_3 := K2_3.out.c1
           have hk2f0_3 := K2_3.out.f0
           have hk2f1_3 := K2_3.out.f1))
    go_wp2
    have hr0 := K2_3.out.c0
    have hr1 := K2_3.out.c1
    exact bodyPost_ret (v := .agg #[.bool (sgZ z), .slice A9 (nats (magZ z)).length c9]) (by simp [results, Tryz.results104, go_sem, hr0, hr1]) rfl (ownRB_close HB_3.out HO9.out K2_2.out.lt (by omega))
  · have hlt : val ds < val es := by omega
    rw [sgn_lt hlt]
    have HGV := Lib.hid hlt
    clear hlt hge
    go_wp2
    go_region_held3 (fun w' => w'.cell? ⟨w.heap.size + 1, 0, none⟩ = some (.bool true) ∧ w'.cell? ⟨w.heap.size + 1, 1, none⟩ = some (.slice B m d) ∧ w'.cell? ⟨w.heap.size, 1, none⟩ = some (.slice A n c)) (go_keep)
      (first
        | (go_at_call 131
           refine (l02Sub_any B A m d n c es ds _ ?_ ?_ HE.out.1 HD.out.1 ?_ ?_ ?_).mono ?_
           exact (HB.out.below HB_1.out.drew (Nat.le_refl _))
           exact (HA.out.below HB_1.out.drew (Nat.le_refl _))
           exact HGE.out HGV.out
           exact Nat.le_of_lt HGV.out
           omega
           rintro e w1 ⟨v, rfl, ho, hb⟩
           obtain ⟨A1, c1, rfl⟩ := ho.shape
           have HRS := Lib.hid (dig_can (val es - val ds)).1
           have HO1 := Lib.hid ho
           clear ho
           have K0_2 := Lib.hid (K0_1.out.drew.after hb)
           have K1_2 := Lib.hid (K1_1.out.drew.after hb)
           have K2_2 := Lib.hid (K2_1.out.drew.after hb)
           have HB_2 := Lib.hid (HB_1.out.drew.trans (hb.mono HB_1.out.drew.size))
           clear hb
           have hk1c0_2 := K1_2.out.c0
           have hk1c1_2 := K1_2.out.c1
           have hk0c1_2 := K0_2.out.c1)
        | (go_at_call 105
           refine (l03Make_at true A1 _ c1 _ z (by rw [val_dig, signed_sub _ _ _ (Nat.le_of_lt HGV.out), Int.add_comm]; exact HZ.out) _ HO1.out.row HRS.out HO1.out.cap.1 HO1.out.cap.2 HO1.out.nil_cap).mono ?_
           rintro e w9 ⟨v9, rfl, ho9, hb⟩
           obtain ⟨A9, c9, rfl⟩ := ho9.shape
           have HO9 := Lib.hid ho9
           clear ho9
           have K0_3 := Lib.hid (K0_2.out.after hb)
           have K1_3 := Lib.hid (K1_2.out.after hb)
           have K2_3 := Lib.hid (K2_2.out.after hb)
           have H1_3 := Lib.hid (OwnV.below (w := w1) HO1.out hb)
           have HB_3 := Lib.hid (HB_2.out.trans (hb.mono HB_2.out.size))
           clear hb
           have hk1c0_3 := K1_3.out.c0
           have hk1c1_3 := K1_3.out.c1
           have hk0c1_3 := K0_3.out.c1
           have hk2c0_3 := K2_3.out.c0
           have hk2c1_3 := K2_3.out.c1
           have hk2f0_3 := K2_3.out.f0
           have hk2f1_3 := K2_3.out.f1))
    go_wp2
    have hr0 := K2_3.out.c0
    have hr1 := K2_3.out.c1
    exact bodyPost_ret (v := .agg #[.bool (sgZ z), .slice A9 (nats (magZ z)).length c9]) (by simp [results, Tryz.results104, go_sem, hr0, hr1]) rfl (ownRB_close HB_3.out HO9.out K2_2.out.lt (by omega))
theorem l03Add_any (s t : Bool) (A B : Option Addr) (n c m d : Nat) (ds es : List Nat) (w : World) (hA : VRow w A n (nats ds)) (hB : VRow w B m (nats es)) (hds : Canon ds) (hes : Canon es) (hn : n ≤ 60) (hm : m ≤ 60) :
    Calls Tryz.prog 104 #[.agg #[.bool s, .slice A n c], .agg #[.bool t, .slice B m d]] w (OwnRB 3 (sgZ (signed s (val ds) + signed t (val es))) (nats (magZ (signed s (val ds) + signed t (val es)))) w) := by
  cases s <;> cases t
  · exact l03Add_same false A B n c m d ds es w hA hB hds hes hn hm
  · exact l03Add_false A B n c m d ds es w hA hB hds hes hn hm
  · exact l03Add_true A B n c m d ds es w hA hB hds hes hn hm
  · exact l03Add_same true A B n c m d ds es w hA hB hds hes hn hm
end Go.Proofs.YtdilbhkdkppodaaGreat
