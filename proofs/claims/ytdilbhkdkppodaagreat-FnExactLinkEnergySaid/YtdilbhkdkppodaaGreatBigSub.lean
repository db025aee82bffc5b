/- Big integers: BigIntSub of the program. Conditions: none. -/
import Derived.Test.YtdilbhkdkppodaaGreatProg
import Derived.Test.YtdilbhkdkppodaaGreatBigSum
namespace Go.Proofs.YtdilbhkdkppodaaGreat
open Go.RowKit Nt
set_option linter.unusedVariables false

theorem okB_flip {t : Bool} {ys : List Int} (h : 0 < ys.length) : okB (!t) ys = okB t ys := by simp [okB, h]
theorem zOf_flip (t : Bool) (ys : List Int) : zOf (!t) ys = -(zOf t ys) := by unfold zOf; exact signed_neg t _
theorem zOf_nil (t : Bool) {ys : List Int} (h : ys.length = 0) : zOf t ys = 0 := by
  rw [List.eq_nil_of_length_eq_zero h]
  cases t <;> simp [zOf, toN, val, signed]
set_option maxRecDepth 100000 in
set_option maxHeartbeats 4000000 in
theorem bigIntSub_impl (s t : Bool) (A B : Option Addr) (n c m d : Nat) (xs ys : List Int) (w : World) (hA : VRow w A n (ints xs)) (hB : VRow w B m (ints ys)) (hn : n ≤ maxLen) (hm : m ≤ maxLen) :
    Calls Tryz.prog 87 #[.agg #[.bool s, .slice A n c], .agg #[.bool t, .slice B m d]] w (OwnRB 3 (resS (okB s xs && okB t ys) (zOf s xs - zOf t ys)) (nats (resM (okB s xs && okB t ys) (zOf s xs - zOf t ys))) w) := by
  obtain ⟨RS, hRS⟩ : ∃ b, resS (okB s xs && okB t ys) (zOf s xs - zOf t ys) = b := ⟨_, rfl⟩
  obtain ⟨RM, hRM⟩ : ∃ l, nats (resM (okB s xs && okB t ys) (zOf s xs - zOf t ys)) = l := ⟨_, rfl⟩
  rw [hRS, hRM]
  have HRS := Lib.hid hRS
  have HRM := Lib.hid hRM
  clear hRS hRM
  have HA := Lib.hid hA
  have HB := Lib.hid hB
  have HN := Lib.hid hn
  have HM := Lib.hid hm
  have HL := Lib.hid (show xs.length = n by simpa [ints] using hA.1)
  have HL2 := Lib.hid (show ys.length = m by simpa [ints] using hB.1)
  clear hA hB hn hm
  have hm63 : m ≤ 9223372036854775807 := by have h := HM.out; unfold maxLen at h; omega
  go_enter Tryz.func87, Tryz.ntmps87
  have HB_0 := Lib.hid ((((Below.refl w.heap.size w).alloc (Nat.le_refl _) (.cells #[.bool s, .slice A n c] 30)).alloc (by simp) (.cells #[.bool t, .slice B m d] 30)).alloc (by simp; omega) (.cells #[.bool false, .slice none 0 0] 30))
  have K0_0 := Lib.hid (((Held.new_at w (w.heap.size) (.bool s) (.slice A n c) 30 (by first | rfl | simp)).alloc (.cells #[.bool t, .slice B m d] 30)).alloc (.cells #[.bool false, .slice none 0 0] 30))
  have K1_0 := Lib.hid ((Held.new_at (w.alloc (.cells #[.bool s, .slice A n c] 30)) (w.heap.size + 1) (.bool t) (.slice B m d) 30 (by first | rfl | simp)).alloc (.cells #[.bool false, .slice none 0 0] 30))
  have K2_0 := Lib.hid (Held.new_at ((w.alloc (.cells #[.bool s, .slice A n c] 30)).alloc (.cells #[.bool t, .slice B m d] 30)) (w.heap.size + 1 + 1) (.bool false) (.slice none 0 0) 30 (by first | rfl | simp))
  have hne01 : w.heap.size ≠ w.heap.size + 1 := by omega
  have hne02 : w.heap.size ≠ w.heap.size + 1 + 1 := by omega
  have hne10 : w.heap.size + 1 ≠ w.heap.size := by omega
  have hne12 : w.heap.size + 1 ≠ w.heap.size + 1 + 1 := by omega
  have hne20 : w.heap.size + 1 + 1 ≠ w.heap.size := by omega
  have hne21 : w.heap.size + 1 + 1 ≠ w.heap.size + 1 := by omega
  go_wp2_with fail
  refine (signedOf_any t B m d _).mono ?_
  rintro e w0 ⟨rfl, hb⟩
  have K0_1 := Lib.hid (K0_0.out.after hb)
  have K1_1 := Lib.hid (K1_0.out.after hb)
  have K2_1 := Lib.hid (K2_0.out.after hb)
  have HB_1 := Lib.hid (HB_0.out.trans (hb.mono HB_0.out.size))
  clear hb
  have hk2c0_1 := K2_1.out.c0
  have hk2c1_1 := K2_1.out.c1
  have hk2f0_1 := K2_1.out.f0
  have hk2f1_1 := K2_1.out.f1
  have hk0c0_1 := K0_1.out.c0
  have hk0c1_1 := K0_1.out.c1
  by_cases h0 : m = 0
  · subst h0
    have HZY := Lib.hid (show zOf s xs + zOf t ys = zOf s xs - zOf t ys by rw [zOf_nil t (by exact HL2.out)]; simp)
    go_wp2_with (go_at_call 116; refine (isZero_any B _ d _ (by omega)).mono ?_; rintro e w2 ⟨rfl, rfl⟩)
    have K0_2 := Lib.hid (K0_1.out.alloc (.cells #[.slice B 0 d, .bool t] 114))
    have K1_2 := Lib.hid (K1_1.out.alloc (.cells #[.slice B 0 d, .bool t] 114))
    have K2_2 := Lib.hid (K2_1.out.alloc (.cells #[.slice B 0 d, .bool t] 114))
    have K3_2 := Lib.hid (Held.new w0 (.slice B 0 d) (.bool t) 114)
    have hne03 : w.heap.size ≠ w0.heap.size := by have := K0_1.out.lt; omega
    have hne30 : w0.heap.size ≠ w.heap.size := by have := K0_1.out.lt; omega
    have hne13 : w.heap.size + 1 ≠ w0.heap.size := by have := K1_1.out.lt; omega
    have hne31 : w0.heap.size ≠ w.heap.size + 1 := by have := K1_1.out.lt; omega
    have hne23 : w.heap.size + 1 + 1 ≠ w0.heap.size := by have := K2_1.out.lt; omega
    have hne32 : w0.heap.size ≠ w.heap.size + 1 + 1 := by have := K2_1.out.lt; omega
    have HB_2 := Lib.hid (HB_1.out.alloc HB_1.out.size (.cells #[.slice B 0 d, .bool t] 114))
    clear hk2c0_1
    clear hk2c1_1
    clear hk2f0_1
    clear hk2f1_1
    clear hk0c0_1
    clear hk0c1_1
    have hk2c0_2 := K2_2.out.c0
    have hk2c1_2 := K2_2.out.c1
    have hk2f0_2 := K2_2.out.f0
    have hk2f1_2 := K2_2.out.f1
    have hk0c0_2 := K0_2.out.c0
    have hk0c1_2 := K0_2.out.c1
    have hk3c0_2 := K3_2.out.c0
    have hk3c1_2 := K3_2.out.c1
    go_region_held3 (fun w' => w'.cell? ⟨w.heap.size, 0, none⟩ = some (.bool s) ∧ w'.cell? ⟨w.heap.size, 1, none⟩ = some (.slice A n c) ∧ w'.cell? ⟨w0.heap.size, 0, none⟩ = some (.slice B 0 d) ∧ w'.cell? ⟨w0.heap.size, 1, none⟩ = some (.bool t)) (go_keep)
      (first
        | (go_at_call 115
           refine (signedOf_any s A n c _).mono ?_
           rintro e w1 ⟨rfl, hb⟩
           have K0_3 := Lib.hid (K0_2.out.drew.after hb)
           have K1_3 := Lib.hid (K1_2.out.drew.after hb)
           have K2_3 := Lib.hid (K2_2.out.drew.after hb)
           have K3_3 := Lib.hid (K3_2.out.drew.after hb)
           have HB_3 := Lib.hid (HB_2.out.drew.trans (hb.mono HB_2.out.drew.size))
           clear hb
           have hk0c0_3 := K0_3.out.c0
           have hk0c1_3 := K0_3.out.c1
           have hk3c0_3 := K3_3.out.c0
           have hk3c1_3 := K3_3.out.c1)
        | (go_at_call 117
           have h3 := sumOf_any s t A B n c 0 d xs ys w1 (HA.out.below HB_3.out (Nat.le_refl _)) (HB.out.below HB_3.out (Nat.le_refl _)) HN.out HM.out
           rw [HZY.out, HRS.out, HRM.out] at h3
           refine h3.mono ?_
           clear h3
           rintro e w9 ⟨v9, rfl, ho9, hb⟩
           obtain ⟨A9, c9, rfl⟩ := ho9.shape
           have HO9 := Lib.hid ho9
           clear ho9
           have K0_4 := Lib.hid (K0_3.out.after hb)
           have K1_4 := Lib.hid (K1_3.out.after hb)
           have K2_4 := Lib.hid (K2_3.out.after hb)
           have K3_4 := Lib.hid (K3_3.out.after hb)
           have HB_4 := Lib.hid (HB_3.out.trans (hb.mono HB_3.out.size))
           clear hb
           have hk0c0_4 := K0_4.out.c0
           have hk0c1_4 := K0_4.out.c1
           have hk3c0_4 := K3_4.out.c0
           have hk3c1_4 := K3_4.out.c1
           have hk2c0_4 := K2_4.out.c0
           have hk2c1_4 := K2_4.out.c1
           have hk2f0_4 := K2_4.out.f0
           have hk2f1_4 := K2_4.out.f1))
    go_wp2
    have hr0 := K2_4.out.c0
    have hr1 := K2_4.out.c1
    exact bodyPost_ret (v := .agg #[.bool RS, .slice A9 RM.length c9]) (by simp [results, Tryz.results87, go_sem, hr0, hr1]) rfl (ownRB_close HB_4.out HO9.out K2_3.out.lt (by omega))
  · have HZY := Lib.hid (show zOf s xs + zOf (!t) ys = zOf s xs - zOf t ys by rw [zOf_flip, Int.sub_eq_add_neg])
    have HOF := Lib.hid (show okB (!t) ys = okB t ys from okB_flip (by rw [HL2.out]; omega))
    go_wp2_with (go_at_call 116; refine (isZero_any B _ d _ (by omega)).mono ?_; rintro e w2 ⟨rfl, rfl⟩)
    have K0_2 := Lib.hid (K0_1.out.alloc (.cells #[.slice B m d, .bool (!t)] 114))
    have K1_2 := Lib.hid (K1_1.out.alloc (.cells #[.slice B m d, .bool (!t)] 114))
    have K2_2 := Lib.hid (K2_1.out.alloc (.cells #[.slice B m d, .bool (!t)] 114))
    have K3_2 := Lib.hid (Held.new w0 (.slice B m d) (.bool (!t)) 114)
    have hne03 : w.heap.size ≠ w0.heap.size := by have := K0_1.out.lt; omega
    have hne30 : w0.heap.size ≠ w.heap.size := by have := K0_1.out.lt; omega
    have hne13 : w.heap.size + 1 ≠ w0.heap.size := by have := K1_1.out.lt; omega
    have hne31 : w0.heap.size ≠ w.heap.size + 1 := by have := K1_1.out.lt; omega
    have hne23 : w.heap.size + 1 + 1 ≠ w0.heap.size := by have := K2_1.out.lt; omega
    have hne32 : w0.heap.size ≠ w.heap.size + 1 + 1 := by have := K2_1.out.lt; omega
    have HB_2 := Lib.hid (HB_1.out.alloc HB_1.out.size (.cells #[.slice B m d, .bool (!t)] 114))
    clear hk2c0_1
    clear hk2c1_1
    clear hk2f0_1
    clear hk2f1_1
    clear hk0c0_1
    clear hk0c1_1
    have hk2c0_2 := K2_2.out.c0
    have hk2c1_2 := K2_2.out.c1
    have hk2f0_2 := K2_2.out.f0
    have hk2f1_2 := K2_2.out.f1
    have hk0c0_2 := K0_2.out.c0
    have hk0c1_2 := K0_2.out.c1
    have hk3c0_2 := K3_2.out.c0
    have hk3c1_2 := K3_2.out.c1
    go_region_held3 (fun w' => w'.cell? ⟨w.heap.size, 0, none⟩ = some (.bool s) ∧ w'.cell? ⟨w.heap.size, 1, none⟩ = some (.slice A n c) ∧ w'.cell? ⟨w0.heap.size, 0, none⟩ = some (.slice B m d) ∧ w'.cell? ⟨w0.heap.size, 1, none⟩ = some (.bool (!t))) (go_keep)
      (first
        | (go_at_call 115
           refine (signedOf_any s A n c _).mono ?_
           rintro e w1 ⟨rfl, hb⟩
           have K0_3 := Lib.hid (K0_2.out.drew.after hb)
           have K1_3 := Lib.hid (K1_2.out.drew.after hb)
           have K2_3 := Lib.hid (K2_2.out.drew.after hb)
           have K3_3 := Lib.hid (K3_2.out.drew.after hb)
           have HB_3 := Lib.hid (HB_2.out.drew.trans (hb.mono HB_2.out.drew.size))
           clear hb
           have hk0c0_3 := K0_3.out.c0
           have hk0c1_3 := K0_3.out.c1
           have hk3c0_3 := K3_3.out.c0
           have hk3c1_3 := K3_3.out.c1)
        | (go_at_call 117
           have h3 := sumOf_any s (!t) A B n c m d xs ys w1 (HA.out.below HB_3.out (Nat.le_refl _)) (HB.out.below HB_3.out (Nat.le_refl _)) HN.out HM.out
           rw [HZY.out, HOF.out, HRS.out, HRM.out] at h3
           refine h3.mono ?_
           clear h3
           rintro e w9 ⟨v9, rfl, ho9, hb⟩
           obtain ⟨A9, c9, rfl⟩ := ho9.shape
           have HO9 := Lib.hid ho9
           clear ho9
           have K0_4 := Lib.hid (K0_3.out.after hb)
           have K1_4 := Lib.hid (K1_3.out.after hb)
           have K2_4 := Lib.hid (K2_3.out.after hb)
           have K3_4 := Lib.hid (K3_3.out.after hb)
           have HB_4 := Lib.hid (HB_3.out.trans (hb.mono HB_3.out.size))
           clear hb
           have hk0c0_4 := K0_4.out.c0
           have hk0c1_4 := K0_4.out.c1
           have hk3c0_4 := K3_4.out.c0
           have hk3c1_4 := K3_4.out.c1
           have hk2c0_4 := K2_4.out.c0
           have hk2c1_4 := K2_4.out.c1
           have hk2f0_4 := K2_4.out.f0
           have hk2f1_4 := K2_4.out.f1))
    go_wp2
    have hr0 := K2_4.out.c0
    have hr1 := K2_4.out.c1
    exact bodyPost_ret (v := .agg #[.bool RS, .slice A9 RM.length c9]) (by simp [results, Tryz.results87, go_sem, hr0, hr1]) rfl (ownRB_close HB_4.out HO9.out K2_3.out.lt (by omega))
end Go.Proofs.YtdilbhkdkppodaaGreat
