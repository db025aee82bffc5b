/- Joined: XBigMul XBigSum XBigSub. Conditions: none. -/
import Derived.Test.YtaboodioabopnaaGreatProg
import Derived.Test.YtaboodioabopnaaGreatNB4
import Derived.Test.YtaboodioabopnaaGreatNB2
import Derived.Deep.DeepCutAuto
namespace Go.Proofs.YtaboodioabopnaaGreat
open Go.RowKit Nt
set_option linter.unusedVariables false
theorem below_al {w u : World} {o : Obj} (h : Below w.heap.size w u) : Below w.heap.size w (u.alloc o) := h.alloc h.size o
set_option maxRecDepth 100000 in
set_option maxHeartbeats 4000000 in
theorem times_any (A B : Option Addr) (n c m d : Nat) (xs ys : List Int) (w : World) (hA : VRow w A n (ints xs)) (hB : VRow w B m (ints ys)) (hn : n ≤ maxLen) (hm : m ≤ maxLen) :
   Calls Tryz.prog 134 #[.slice A n c, .slice B m d] w (OwnR 3 (nats (mulN xs ys)) w) := by
 have HA := Lib.hid hA
 have HB := Lib.hid hB
 have HN := Lib.hid hn
 have HM := Lib.hid hm
 clear hA hB hn hm
 go_enter Tryz.func134, Tryz.ntmps134
 go_wp2_with fail
 refine (natMul_impl A B n c m d xs ys _ HA.out HB.out HN.out HM.out).mono ?_
 rintro e w1 ⟨v, rfl, ho, hb⟩
 have HO1 := Lib.hid ho
 have HB1 := Lib.hid hb
 clear ho hb
 go_wp2
 go_ret
 exact ⟨_, rfl, HO1.out, HB1.out⟩
set_option maxRecDepth 100000 in
set_option maxHeartbeats 4000000 in
theorem bigIntMul_impl (s t : Bool) (A B : Option Addr) (n c m d : Nat) (xs ys : List Int) (w : World) (hA : VRow w A n (ints xs)) (hB : VRow w B m (ints ys)) (hn : n ≤ maxLen) (hm : m ≤ maxLen) :
   Calls Tryz.prog 114 #[.agg #[.bool s, .slice A n c], .agg #[.bool t, .slice B m d]] w (OwnRB 3 (resS (okB s xs && okB t ys) (zOf s xs * zOf t ys)) (nats (resM (okB s xs && okB t ys) (zOf s xs * zOf t ys))) w) := by
 obtain ⟨z, hz⟩ : ∃ z, zOf s xs * zOf t ys = z := ⟨_, rfl⟩
 rw [hz]
 have HZ := Lib.hid hz
 clear hz
 obtain ⟨RS, hRS⟩ : ∃ b, resS (okB s xs && okB t ys) z = b := ⟨_, rfl⟩
 obtain ⟨RM, hRM⟩ : ∃ l, resM (okB s xs && okB t ys) z = l := ⟨_, rfl⟩
 rw [hRS, hRM]
 have HRS := Lib.hid hRS
 have HRM := Lib.hid hRM
 clear hRS hRM
 have HA := Lib.hid hA
 have HB := Lib.hid hB
 have HN := Lib.hid hn
 have HM := Lib.hid hm
 have HL := Lib.hid (show xs.length = n by simpa [ints] using hA.1)
 have HL2 := Lib.hid (show ys.length = m by simpa [ints] using hB.1)
 clear hA hB hn hm
 go_enter Tryz.func114, Tryz.ntmps114
 have HB_0 := Lib.hid ((((Below.refl w.heap.size w).alloc (Nat.le_refl _) (.cells #[.bool s, .slice A n c] 35)).alloc (by simp) (.cells #[.bool t, .slice B m d] 35)).alloc (by simp; omega) (.cells #[.bool false, .slice none 0 0] 35))
 have K0_0 := Lib.hid (((Held.new_at w (w.heap.size) (.bool s) (.slice A n c) 35 (by first | rfl | simp)).alloc (.cells #[.bool t, .slice B m d] 35)).alloc (.cells #[.bool false, .slice none 0 0] 35))
 have K1_0 := Lib.hid ((Held.new_at (w.alloc (.cells #[.bool s, .slice A n c] 35)) (w.heap.size + 1) (.bool t) (.slice B m d) 35 (by first | rfl | simp)).alloc (.cells #[.bool false, .slice none 0 0] 35))
 have K2_0 := Lib.hid (Held.new_at ((w.alloc (.cells #[.bool s, .slice A n c] 35)).alloc (.cells #[.bool t, .slice B m d] 35)) (w.heap.size + 1 + 1) (.bool false) (.slice none 0 0) 35 (by first | rfl | simp))
 have hne01 : w.heap.size ≠ w.heap.size + 1 := by omega
 have hne02 : w.heap.size ≠ w.heap.size + 1 + 1 := by omega
 have hne10 : w.heap.size + 1 ≠ w.heap.size := by omega
 have hne12 : w.heap.size + 1 ≠ w.heap.size + 1 + 1 := by omega
 have hne20 : w.heap.size + 1 + 1 ≠ w.heap.size := by omega
 have hne21 : w.heap.size + 1 + 1 ≠ w.heap.size + 1 := by omega
 go_upto_region 1 with fail
 go_cut [5, 6] (fun p q wx => ∃ b5 b6, p = .pointer (some ⟨b5, 0, none⟩) ∧ q = .pointer (some ⟨b6, 0, none⟩) ∧ Held wx b5 (.slice A n c) (.bool s) ∧ Held wx b6 (.slice B m d) (.bool t) ∧ Held wx (w.heap.size + 1 + 1) (.bool false) (.slice none 0 0) ∧ b5 ≠ w.heap.size + 1 + 1 ∧ b6 ≠ w.heap.size + 1 + 1 ∧ Below w.heap.size w wx)
 case first =>
   go_region_held3 (fun w' => w'.cell? ⟨w.heap.size, 0, none⟩ = some (.bool s) ∧ w'.cell? ⟨w.heap.size, 1, none⟩ = some (.slice A n c) ∧ w'.cell? ⟨w.heap.size + 1, 0, none⟩ = some (.bool t) ∧ w'.cell? ⟨w.heap.size + 1, 1, none⟩ = some (.slice B m d)) (simp [go_sem])
     (first
       | (go_at_call_of 113 (Value.agg #[Value.bool s, Value.slice A n c]); refine (signedOf_at s A n c _).mono ?_; rintro e w1 ⟨rfl, rfl⟩)
       | (go_at_call_of 113 (Value.agg #[Value.bool t, Value.slice B m d]); refine (signedOf_at t B m d _).mono ?_; rintro e w1 ⟨rfl, rfl⟩))
   all_goals go_wp2_with fail
   all_goals go_meet
   all_goals refine ⟨_, _, rfl, rfl, ?_, ?_, ?_, by omega, by omega, ?_⟩
   all_goals first | (refine Held.mk ?_ ?_ ?_ ?_ ?_ <;> first | (simp [go_sem]; done) | (simp; omega)) | (refine Below.drew ?_; (iterate 9 apply below_al); exact Below.refl _ _)
 obtain ⟨b5, b6, rfl, rfl, h5, h6, h7, hn5, hn6, hbw⟩ := hcut
 clear K0_0 K1_0 K2_0 HB_0
 have K0_0 := Lib.hid h5
 have K1_0 := Lib.hid h6
 have K2_0 := Lib.hid h7
 have HB_0 := Lib.hid hbw
 have hn5' := hn5.symm
 have hn6' := hn6.symm
 clear h5 h6 h7 hbw
 have hk0c0_0 := K0_0.out.c0
 have hk0c1_0 := K0_0.out.c1
 go_wp2_with fail
 refine (isValid_any s A n c xs _ (HA.out.below HB_0.out (Nat.le_refl _)) HN.out).mono ?_
 rintro e w0 ⟨rfl, hb⟩
 have K0_1 := Lib.hid (K0_0.out.after hb)
 have K1_1 := Lib.hid (K1_0.out.after hb)
 have K2_1 := Lib.hid (K2_0.out.after hb)
 have HB_1 := Lib.hid (HB_0.out.trans (hb.mono HB_0.out.size))
 clear hb
 by_cases hok : okB s xs = true
 · rw [hok]
   have hk1c0_1 := K1_1.out.c0
   have hk1c1_1 := K1_1.out.c1
   go_wp2_with fail
   refine (isValid_any t B m d ys _ (HB.out.below HB_1.out (Nat.le_refl _)) HM.out).mono ?_
   rintro e w01 ⟨rfl, hb⟩
   have K0_2 := Lib.hid (K0_1.out.after hb)
   have K1_2 := Lib.hid (K1_1.out.after hb)
   have K2_2 := Lib.hid (K2_1.out.after hb)
   have HB_2 := Lib.hid (HB_1.out.trans (hb.mono HB_1.out.size))
   clear hb
   clear hk1c0_1
   clear hk1c1_1
   by_cases hok2 : okB t ys = true
   · rw [hok2]
     obtain rfl : RS = sgZ z := by rw [← HRS.out, hok, hok2]; simp [resS]
     obtain rfl : RM = magZ z := by rw [← HRM.out, hok, hok2]; simp [resM]
     obtain ⟨hex, hcanx, hl60x⟩ := okI_nats (okB_ok hok)
     have hlenx : n ≤ 60 := by have h1 := HL.out; rw [toN_len] at hl60x; omega
     have HAn := Lib.hid (hex ▸ HA.out)
     have HCx := Lib.hid hcanx
     clear hex hcanx hl60x
     obtain ⟨hey, hcany, hl60y⟩ := okI_nats (okB_ok hok2)
     have hleny : m ≤ 60 := by have h1 := HL2.out; rw [toN_len] at hl60y; omega
     have HBn := Lib.hid (hey ▸ HB.out)
     have HCy := Lib.hid hcany
     clear hey hcany hl60y
     have HOK := Lib.hid hok
     have HOK2 := Lib.hid hok2
     clear hok hok2
     have HLEN := Lib.hid (show (nats (magZ z)).length ≤ 60 by rw [nats_len]; exact capd_len _)
     have hlen9 := HLEN.out
     have hk0c0_2 := K0_2.out.c0
     have hk0c1_2 := K0_2.out.c1
     have hk1c0_2 := K1_2.out.c0
     have hk1c1_2 := K1_2.out.c1
     have hk2c0_2 := K2_2.out.c0
     have hk2c1_2 := K2_2.out.c1
     have hk2f0_2 := K2_2.out.f0
     have hk2f1_2 := K2_2.out.f1
     have HMG := Lib.hid (show nats (mulN xs ys) = nats (magZ z) by rw [mulN_yes (okB_ok HOK.out) (okB_ok HOK2.out), ← HZ.out, zOf, zOf, ← signed_mul, magZ_signed])
     have HSG := Lib.hid (show ((s != t) && decide (0 < (nats (magZ z)).length)) = sgZ z by rw [nats_len, ← HZ.out, zOf, zOf, ← signed_mul, sgZ_signed, magZ_signed])
     go_wp2
     go_region_held3 (fun w' => w'.cell? ⟨b5, 1, none⟩ = some (.bool s) ∧ w'.cell? ⟨b6, 1, none⟩ = some (.bool t) ∧ w'.cell? ⟨b5, 0, none⟩ = some (.slice A n c) ∧ w'.cell? ⟨b6, 0, none⟩ = some (.slice B m d)) (go_keep)
       (first
         | (go_at_call 134
            refine (times_any A B n c m d xs ys _ (HA.out.below HB_2.out.drew (Nat.le_refl _)) (HB.out.below HB_2.out.drew (Nat.le_refl _)) HN.out HM.out).mono ?_
            rintro e w2 ⟨v2, rfl, ho, hb⟩
            rw [HMG.out] at ho
            obtain ⟨A1, c1, rfl⟩ := ho.shape
            have HO1 := Lib.hid ho
            clear ho
            have K0_3 := Lib.hid (K0_2.out.drew.after hb)
            have K1_3 := Lib.hid (K1_2.out.drew.after hb)
            have K2_3 := Lib.hid (K2_2.out.drew.after hb)
            have HB_3 := Lib.hid (HB_2.out.drew.trans (hb.mono HB_2.out.drew.size))
            clear hb
            have hk0c1_3 := K0_3.out.c1
            have hk1c1_3 := K1_3.out.c1
            have hk0c0_3 := K0_3.out.c0
            have hk1c0_3 := K1_3.out.c0)
         | (go_at_call 111
            refine (bigIntWith_any (s != t) A1 _ c1 _ ?_).mono ?_
            omega
            rintro e w9 ⟨rfl, hb⟩
            rw [HSG.out]
            have HO9 := Lib.hid (OwnV.below HO1.out hb)
            have K0_4 := Lib.hid (K0_3.out.after hb)
            have K1_4 := Lib.hid (K1_3.out.after hb)
            have K2_4 := Lib.hid (K2_3.out.after hb)
            have HB_4 := Lib.hid (HB_3.out.trans (hb.mono HB_3.out.size))
            clear hb
            have hk0c1_4 := K0_4.out.c1
            have hk1c1_4 := K1_4.out.c1
            have hk0c0_4 := K0_4.out.c0
            have hk1c0_4 := K1_4.out.c0
            have hk2c0_4 := K2_4.out.c0
            have hk2c1_4 := K2_4.out.c1
            have hk2f0_4 := K2_4.out.f0
            have hk2f1_4 := K2_4.out.f1))
     go_wp2
     have hr0 := K2_4.out.c0
     have hr1 := K2_4.out.c1
     exact bodyPost_ret (v := .agg #[.bool (sgZ z), .slice A1 (nats (magZ z)).length c1]) (by simp [results, Tryz.results114, go_sem, hr0, hr1]) rfl (ownRB_close HB_4.out HO9.out K2_2.out.lt (by omega))
   · rw [Bool.not_eq_true] at hok2
     rw [hok2]
     obtain rfl : RS = false := by rw [← HRS.out, hok, hok2]; simp [resS]
     obtain rfl : RM = [] := by rw [← HRM.out, hok, hok2]; simp [resM]
     have hk2c0_2 := K2_2.out.c0
     have hk2c1_2 := K2_2.out.c1
     have hk2f0_2 := K2_2.out.f0
     have hk2f1_2 := K2_2.out.f1
     go_wp2
     exact bodyPost_ret (v := .agg #[.bool false, .slice none 0 0]) (by simp [results, Tryz.results114, go_sem, hk2c0_2, hk2c1_2]) rfl (ownRB_close HB_2.out (OwnV.nil _ (w.heap.size + 1 + 1 + 1) _) (Nat.lt_succ_self _) (by omega))
 · rw [Bool.not_eq_true] at hok
   rw [hok]
   obtain rfl : RS = false := by rw [← HRS.out, hok]; simp [resS]
   obtain rfl : RM = [] := by rw [← HRM.out, hok]; simp [resM]
   have hk2c0_1 := K2_1.out.c0
   have hk2c1_1 := K2_1.out.c1
   have hk2f0_1 := K2_1.out.f0
   have hk2f1_1 := K2_1.out.f1
   go_wp2
   exact bodyPost_ret (v := .agg #[.bool false, .slice none 0 0]) (by simp [results, Tryz.results114, go_sem, hk2c0_1, hk2c1_1]) rfl (ownRB_close HB_1.out (OwnV.nil _ (w.heap.size + 1 + 1 + 1) _) (Nat.lt_succ_self _) (by omega))
end Go.Proofs.YtaboodioabopnaaGreat
namespace Go.Proofs.YtaboodioabopnaaGreat
open Go.RowKit Nt
set_option linter.unusedVariables false
theorem OwnV.same {w : World} {base : Nat} {e : TypeId} {v : Value} {xs ys : List Value} (h : OwnV w base e v xs) (he : xs = ys) : OwnV w base e v ys := he ▸ h
theorem capd_ok {s : Bool} {xs : List Int} (h : okB s xs = true) : capd (val (toN xs)) = toN xs := by
 rw [capd_of (okB_val h)]
 exact dig_of_can (okI_nats (okB_ok h)).2.1
set_option maxRecDepth 100000 in
set_option maxHeartbeats 4000000 in
theorem plus_any (A B : Option Addr) (n c m d : Nat) (xs ys : List Int) (w : World) (hA : VRow w A n (ints xs)) (hB : VRow w B m (ints ys)) (hn : n ≤ maxLen) (hm : m ≤ maxLen) :
   Calls Tryz.prog 131 #[.slice A n c, .slice B m d] w (OwnR 3 (nats (addN xs ys)) w) := by
 have HA := Lib.hid hA
 have HB := Lib.hid hB
 have HN := Lib.hid hn
 have HM := Lib.hid hm
 clear hA hB hn hm
 go_enter Tryz.func131, Tryz.ntmps131
 go_wp2_with fail
 refine (natAdd_impl A B n c m d xs ys _ HA.out HB.out HN.out HM.out).mono ?_
 rintro e w1 ⟨v, rfl, ho, hb⟩
 have HO1 := Lib.hid ho
 have HB1 := Lib.hid hb
 clear ho hb
 go_wp2
 go_ret
 exact ⟨_, rfl, HO1.out, HB1.out⟩
set_option maxRecDepth 100000 in
set_option maxHeartbeats 4000000 in
theorem minus_any (A B : Option Addr) (n c m d : Nat) (xs ys : List Int) (w : World) (hA : VRow w A n (ints xs)) (hB : VRow w B m (ints ys)) (hn : n ≤ maxLen) (hm : m ≤ maxLen) :
   Calls Tryz.prog 133 #[.slice A n c, .slice B m d] w (OwnR 3 (nats (subN xs ys)) w) := by
 have HA := Lib.hid hA
 have HB := Lib.hid hB
 have HN := Lib.hid hn
 have HM := Lib.hid hm
 clear hA hB hn hm
 go_enter Tryz.func133, Tryz.ntmps133
 go_wp2_with fail
 refine (natSub_impl A B n c m d xs ys _ HA.out HB.out HN.out HM.out).mono ?_
 rintro e w1 ⟨v, rfl, ho, hb⟩
 have HO1 := Lib.hid ho
 have HB1 := Lib.hid hb
 clear ho hb
 go_wp2
 go_ret
 exact ⟨_, rfl, HO1.out, HB1.out⟩
set_option maxRecDepth 100000 in
set_option maxHeartbeats 4000000 in
theorem sumOf_true_true (A B : Option Addr) (n c m d : Nat) (xs ys : List Int) (w : World) (hA : VRow w A n (ints xs)) (hB : VRow w B m (ints ys)) (hn : n ≤ maxLen) (hm : m ≤ maxLen) :
   Calls Tryz.prog 112 #[.agg #[.slice A n c, .bool true], .agg #[.slice B m d, .bool true]] w (OwnRB 3 (resS (okB true xs && okB true ys) (zOf true xs + zOf true ys)) (nats (resM (okB true xs && okB true ys) (zOf true xs + zOf true ys))) w) := by
 obtain ⟨z, hz⟩ : ∃ z, zOf true xs + zOf true ys = z := ⟨_, rfl⟩
 rw [hz]
 have HZ := Lib.hid hz
 clear hz
 obtain ⟨RS, hRS⟩ : ∃ b, resS (okB true xs && okB true ys) z = b := ⟨_, rfl⟩
 obtain ⟨RM, hRM⟩ : ∃ l, resM (okB true xs && okB true ys) z = l := ⟨_, rfl⟩
 rw [hRS, hRM]
 have HRS := Lib.hid hRS
 have HRM := Lib.hid hRM
 clear hRS hRM
 have HA := Lib.hid hA
 have HB := Lib.hid hB
 have HN := Lib.hid hn
 have HM := Lib.hid hm
 have HL := Lib.hid (show xs.length = n by simpa [ints] using hA.1)
 have HL2 := Lib.hid (show ys.length = m by simpa [ints] using hB.1)
 clear hA hB hn hm
 go_enter Tryz.func112, Tryz.ntmps112
 have HB_0 := Lib.hid ((((Below.refl w.heap.size w).alloc (Nat.le_refl _) (.cells #[.slice A n c, .bool true] 137)).alloc (by simp) (.cells #[.slice B m d, .bool true] 137)).alloc (by simp; omega) (.cells #[.bool false, .slice none 0 0] 35))
 have K0_0 := Lib.hid (((Held.new_at w (w.heap.size) (.slice A n c) (.bool true) 137 (by first | rfl | simp)).alloc (.cells #[.slice B m d, .bool true] 137)).alloc (.cells #[.bool false, .slice none 0 0] 35))
 have K1_0 := Lib.hid ((Held.new_at (w.alloc (.cells #[.slice A n c, .bool true] 137)) (w.heap.size + 1) (.slice B m d) (.bool true) 137 (by first | rfl | simp)).alloc (.cells #[.bool false, .slice none 0 0] 35))
 have K2_0 := Lib.hid (Held.new_at ((w.alloc (.cells #[.slice A n c, .bool true] 137)).alloc (.cells #[.slice B m d, .bool true] 137)) (w.heap.size + 1 + 1) (.bool false) (.slice none 0 0) 35 (by first | rfl | simp))
 have hne01 : w.heap.size ≠ w.heap.size + 1 := by omega
 have hne02 : w.heap.size ≠ w.heap.size + 1 + 1 := by omega
 have hne10 : w.heap.size + 1 ≠ w.heap.size := by omega
 have hne12 : w.heap.size + 1 ≠ w.heap.size + 1 + 1 := by omega
 have hne20 : w.heap.size + 1 + 1 ≠ w.heap.size := by omega
 have hne21 : w.heap.size + 1 + 1 ≠ w.heap.size + 1 := by omega
 go_wp2_with fail
 refine (isValid_any true A n c xs _ (HA.out.below HB_0.out (Nat.le_refl _)) HN.out).mono ?_
 rintro e w0 ⟨rfl, hb⟩
 have K0_1 := Lib.hid (K0_0.out.after hb)
 have K1_1 := Lib.hid (K1_0.out.after hb)
 have K2_1 := Lib.hid (K2_0.out.after hb)
 have HB_1 := Lib.hid (HB_0.out.trans (hb.mono HB_0.out.size))
 clear hb
 by_cases hok : okB true xs = true
 · rw [hok]
   have hk1c0_1 := K1_1.out.c0
   have hk1c1_1 := K1_1.out.c1
   go_wp2_with fail
   refine (isValid_any true B m d ys _ (HB.out.below HB_1.out (Nat.le_refl _)) HM.out).mono ?_
   rintro e w01 ⟨rfl, hb⟩
   have K0_2 := Lib.hid (K0_1.out.after hb)
   have K1_2 := Lib.hid (K1_1.out.after hb)
   have K2_2 := Lib.hid (K2_1.out.after hb)
   have HB_2 := Lib.hid (HB_1.out.trans (hb.mono HB_1.out.size))
   clear hb
   clear hk1c0_1
   clear hk1c1_1
   by_cases hok2 : okB true ys = true
   · rw [hok2]
     obtain rfl : RS = sgZ z := by rw [← HRS.out, hok, hok2]; simp [resS]
     obtain rfl : RM = magZ z := by rw [← HRM.out, hok, hok2]; simp [resM]
     obtain ⟨hex, hcanx, hl60x⟩ := okI_nats (okB_ok hok)
     have hlenx : n ≤ 60 := by have h1 := HL.out; rw [toN_len] at hl60x; omega
     have HAn := Lib.hid (hex ▸ HA.out)
     have HCx := Lib.hid hcanx
     clear hex hcanx hl60x
     obtain ⟨hey, hcany, hl60y⟩ := okI_nats (okB_ok hok2)
     have hleny : m ≤ 60 := by have h1 := HL2.out; rw [toN_len] at hl60y; omega
     have HBn := Lib.hid (hey ▸ HB.out)
     have HCy := Lib.hid hcany
     clear hey hcany hl60y
     have HOK := Lib.hid hok
     have HOK2 := Lib.hid hok2
     clear hok hok2
     have HLEN := Lib.hid (show (nats (magZ z)).length ≤ 60 by rw [nats_len]; exact capd_len _)
     have hlen9 := HLEN.out
     have hk0c0_2 := K0_2.out.c0
     have hk0c1_2 := K0_2.out.c1
     have hk1c0_2 := K1_2.out.c0
     have hk1c1_2 := K1_2.out.c1
     have hk2c0_2 := K2_2.out.c0
     have hk2c1_2 := K2_2.out.c1
     have hk2f0_2 := K2_2.out.f0
     have hk2f1_2 := K2_2.out.f1
     have HMG := Lib.hid (show nats (addN xs ys) = nats (magZ z) by rw [addN_yes (okB_ok HOK.out) (okB_ok HOK2.out), ← HZ.out, zOf, zOf, ← signed_add, magZ_signed])
     have HSG := Lib.hid (show (true && decide (0 < (nats (magZ z)).length)) = sgZ z by rw [nats_len, ← HZ.out, zOf, zOf, ← signed_add, sgZ_signed, magZ_signed])
     go_wp2
     go_region_held3 (fun w' => w'.cell? ⟨w.heap.size, 1, none⟩ = some (.bool true) ∧ w'.cell? ⟨w.heap.size, 0, none⟩ = some (.slice A n c) ∧ w'.cell? ⟨w.heap.size + 1, 0, none⟩ = some (.slice B m d)) (go_keep)
       (first
         | (go_at_call 131
            refine (plus_any A B n c m d xs ys _ (HA.out.below HB_2.out.drew (Nat.le_refl _)) (HB.out.below HB_2.out.drew (Nat.le_refl _)) HN.out HM.out).mono ?_
            rintro e w2 ⟨v2, rfl, ho, hb⟩
            rw [HMG.out] at ho
            obtain ⟨A1, c1, rfl⟩ := ho.shape
            have HO1 := Lib.hid ho
            clear ho
            have K0_3 := Lib.hid (K0_2.out.drew.after hb)
            have K1_3 := Lib.hid (K1_2.out.drew.after hb)
            have K2_3 := Lib.hid (K2_2.out.drew.after hb)
            have HB_3 := Lib.hid (HB_2.out.drew.trans (hb.mono HB_2.out.drew.size))
            clear hb
            have hk0c1_3 := K0_3.out.c1
            have hk0c0_3 := K0_3.out.c0
            have hk1c0_3 := K1_3.out.c0)
         | (go_at_call 111
            refine (bigIntWith_any true A1 _ c1 _ ?_).mono ?_
            omega
            rintro e w9 ⟨rfl, hb⟩
            rw [HSG.out]
            have HO9 := Lib.hid (OwnV.below HO1.out hb)
            have K0_4 := Lib.hid (K0_3.out.after hb)
            have K1_4 := Lib.hid (K1_3.out.after hb)
            have K2_4 := Lib.hid (K2_3.out.after hb)
            have HB_4 := Lib.hid (HB_3.out.trans (hb.mono HB_3.out.size))
            clear hb
            have hk0c1_4 := K0_4.out.c1
            have hk0c0_4 := K0_4.out.c0
            have hk1c0_4 := K1_4.out.c0
            have hk2c0_4 := K2_4.out.c0
            have hk2c1_4 := K2_4.out.c1
            have hk2f0_4 := K2_4.out.f0
            have hk2f1_4 := K2_4.out.f1))
     go_wp2
     have hr0 := K2_4.out.c0
     have hr1 := K2_4.out.c1
     exact bodyPost_ret (v := .agg #[.bool (sgZ z), .slice A1 (nats (magZ z)).length c1]) (by simp [results, Tryz.results112, go_sem, hr0, hr1]) rfl (ownRB_close HB_4.out HO9.out K2_2.out.lt (by omega))
   · rw [Bool.not_eq_true] at hok2
     rw [hok2]
     obtain rfl : RS = false := by rw [← HRS.out, hok, hok2]; simp [resS]
     obtain rfl : RM = [] := by rw [← HRM.out, hok, hok2]; simp [resM]
     have hk2c0_2 := K2_2.out.c0
     have hk2c1_2 := K2_2.out.c1
     have hk2f0_2 := K2_2.out.f0
     have hk2f1_2 := K2_2.out.f1
     go_wp2
     exact bodyPost_ret (v := .agg #[.bool false, .slice none 0 0]) (by simp [results, Tryz.results112, go_sem, hk2c0_2, hk2c1_2]) rfl (ownRB_close HB_2.out (OwnV.nil _ (w.heap.size + 1 + 1 + 1) _) (Nat.lt_succ_self _) (by omega))
 · rw [Bool.not_eq_true] at hok
   rw [hok]
   obtain rfl : RS = false := by rw [← HRS.out, hok]; simp [resS]
   obtain rfl : RM = [] := by rw [← HRM.out, hok]; simp [resM]
   have hk2c0_1 := K2_1.out.c0
   have hk2c1_1 := K2_1.out.c1
   have hk2f0_1 := K2_1.out.f0
   have hk2f1_1 := K2_1.out.f1
   go_wp2
   exact bodyPost_ret (v := .agg #[.bool false, .slice none 0 0]) (by simp [results, Tryz.results112, go_sem, hk2c0_1, hk2c1_1]) rfl (ownRB_close HB_1.out (OwnV.nil _ (w.heap.size + 1 + 1 + 1) _) (Nat.lt_succ_self _) (by omega))
set_option maxRecDepth 100000 in
set_option maxHeartbeats 4000000 in
theorem sumOf_false_false (A B : Option Addr) (n c m d : Nat) (xs ys : List Int) (w : World) (hA : VRow w A n (ints xs)) (hB : VRow w B m (ints ys)) (hn : n ≤ maxLen) (hm : m ≤ maxLen) :
   Calls Tryz.prog 112 #[.agg #[.slice A n c, .bool false], .agg #[.slice B m d, .bool false]] w (OwnRB 3 (resS (okB false xs && okB false ys) (zOf false xs + zOf false ys)) (nats (resM (okB false xs && okB false ys) (zOf false xs + zOf false ys))) w) := by
 obtain ⟨z, hz⟩ : ∃ z, zOf false xs + zOf false ys = z := ⟨_, rfl⟩
 rw [hz]
 have HZ := Lib.hid hz
 clear hz
 obtain ⟨RS, hRS⟩ : ∃ b, resS (okB false xs && okB false ys) z = b := ⟨_, rfl⟩
 obtain ⟨RM, hRM⟩ : ∃ l, resM (okB false xs && okB false ys) z = l := ⟨_, rfl⟩
 rw [hRS, hRM]
 have HRS := Lib.hid hRS
 have HRM := Lib.hid hRM
 clear hRS hRM
 have HA := Lib.hid hA
 have HB := Lib.hid hB
 have HN := Lib.hid hn
 have HM := Lib.hid hm
 have HL := Lib.hid (show xs.length = n by simpa [ints] using hA.1)
 have HL2 := Lib.hid (show ys.length = m by simpa [ints] using hB.1)
 clear hA hB hn hm
 go_enter Tryz.func112, Tryz.ntmps112
 have HB_0 := Lib.hid ((((Below.refl w.heap.size w).alloc (Nat.le_refl _) (.cells #[.slice A n c, .bool false] 137)).alloc (by simp) (.cells #[.slice B m d, .bool false] 137)).alloc (by simp; omega) (.cells #[.bool false, .slice none 0 0] 35))
 have K0_0 := Lib.hid (((Held.new_at w (w.heap.size) (.slice A n c) (.bool false) 137 (by first | rfl | simp)).alloc (.cells #[.slice B m d, .bool false] 137)).alloc (.cells #[.bool false, .slice none 0 0] 35))
 have K1_0 := Lib.hid ((Held.new_at (w.alloc (.cells #[.slice A n c, .bool false] 137)) (w.heap.size + 1) (.slice B m d) (.bool false) 137 (by first | rfl | simp)).alloc (.cells #[.bool false, .slice none 0 0] 35))
 have K2_0 := Lib.hid (Held.new_at ((w.alloc (.cells #[.slice A n c, .bool false] 137)).alloc (.cells #[.slice B m d, .bool false] 137)) (w.heap.size + 1 + 1) (.bool false) (.slice none 0 0) 35 (by first | rfl | simp))
 have hne01 : w.heap.size ≠ w.heap.size + 1 := by omega
 have hne02 : w.heap.size ≠ w.heap.size + 1 + 1 := by omega
 have hne10 : w.heap.size + 1 ≠ w.heap.size := by omega
 have hne12 : w.heap.size + 1 ≠ w.heap.size + 1 + 1 := by omega
 have hne20 : w.heap.size + 1 + 1 ≠ w.heap.size := by omega
 have hne21 : w.heap.size + 1 + 1 ≠ w.heap.size + 1 := by omega
 go_wp2_with fail
 refine (isValid_any false A n c xs _ (HA.out.below HB_0.out (Nat.le_refl _)) HN.out).mono ?_
 rintro e w0 ⟨rfl, hb⟩
 have K0_1 := Lib.hid (K0_0.out.after hb)
 have K1_1 := Lib.hid (K1_0.out.after hb)
 have K2_1 := Lib.hid (K2_0.out.after hb)
 have HB_1 := Lib.hid (HB_0.out.trans (hb.mono HB_0.out.size))
 clear hb
 by_cases hok : okB false xs = true
 · rw [hok]
   have hk1c0_1 := K1_1.out.c0
   have hk1c1_1 := K1_1.out.c1
   go_wp2_with fail
   refine (isValid_any false B m d ys _ (HB.out.below HB_1.out (Nat.le_refl _)) HM.out).mono ?_
   rintro e w01 ⟨rfl, hb⟩
   have K0_2 := Lib.hid (K0_1.out.after hb)
   have K1_2 := Lib.hid (K1_1.out.after hb)
   have K2_2 := Lib.hid (K2_1.out.after hb)
   have HB_2 := Lib.hid (HB_1.out.trans (hb.mono HB_1.out.size))
   clear hb
   clear hk1c0_1
   clear hk1c1_1
   by_cases hok2 : okB false ys = true
   · rw [hok2]
     obtain rfl : RS = sgZ z := by rw [← HRS.out, hok, hok2]; simp [resS]
     obtain rfl : RM = magZ z := by rw [← HRM.out, hok, hok2]; simp [resM]
     obtain ⟨hex, hcanx, hl60x⟩ := okI_nats (okB_ok hok)
     have hlenx : n ≤ 60 := by have h1 := HL.out; rw [toN_len] at hl60x; omega
     have HAn := Lib.hid (hex ▸ HA.out)
     have HCx := Lib.hid hcanx
     clear hex hcanx hl60x
     obtain ⟨hey, hcany, hl60y⟩ := okI_nats (okB_ok hok2)
     have hleny : m ≤ 60 := by have h1 := HL2.out; rw [toN_len] at hl60y; omega
     have HBn := Lib.hid (hey ▸ HB.out)
     have HCy := Lib.hid hcany
     clear hey hcany hl60y
     have HOK := Lib.hid hok
     have HOK2 := Lib.hid hok2
     clear hok hok2
     have HLEN := Lib.hid (show (nats (magZ z)).length ≤ 60 by rw [nats_len]; exact capd_len _)
     have hlen9 := HLEN.out
     have hk0c0_2 := K0_2.out.c0
     have hk0c1_2 := K0_2.out.c1
     have hk1c0_2 := K1_2.out.c0
     have hk1c1_2 := K1_2.out.c1
     have hk2c0_2 := K2_2.out.c0
     have hk2c1_2 := K2_2.out.c1
     have hk2f0_2 := K2_2.out.f0
     have hk2f1_2 := K2_2.out.f1
     have HMG := Lib.hid (show nats (addN xs ys) = nats (magZ z) by rw [addN_yes (okB_ok HOK.out) (okB_ok HOK2.out), ← HZ.out, zOf, zOf, ← signed_add, magZ_signed])
     have HSG := Lib.hid (show (false && decide (0 < (nats (magZ z)).length)) = sgZ z by rw [nats_len, ← HZ.out, zOf, zOf, ← signed_add, sgZ_signed, magZ_signed])
     go_wp2
     go_region_held3 (fun w' => w'.cell? ⟨w.heap.size, 1, none⟩ = some (.bool false) ∧ w'.cell? ⟨w.heap.size, 0, none⟩ = some (.slice A n c) ∧ w'.cell? ⟨w.heap.size + 1, 0, none⟩ = some (.slice B m d)) (go_keep)
       (first
         | (go_at_call 131
            refine (plus_any A B n c m d xs ys _ (HA.out.below HB_2.out.drew (Nat.le_refl _)) (HB.out.below HB_2.out.drew (Nat.le_refl _)) HN.out HM.out).mono ?_
            rintro e w2 ⟨v2, rfl, ho, hb⟩
            rw [HMG.out] at ho
            obtain ⟨A1, c1, rfl⟩ := ho.shape
            have HO1 := Lib.hid ho
            clear ho
            have K0_3 := Lib.hid (K0_2.out.drew.after hb)
            have K1_3 := Lib.hid (K1_2.out.drew.after hb)
            have K2_3 := Lib.hid (K2_2.out.drew.after hb)
            have HB_3 := Lib.hid (HB_2.out.drew.trans (hb.mono HB_2.out.drew.size))
            clear hb
            have hk0c1_3 := K0_3.out.c1
            have hk0c0_3 := K0_3.out.c0
            have hk1c0_3 := K1_3.out.c0)
         | (go_at_call 111
            refine (bigIntWith_any false A1 _ c1 _ ?_).mono ?_
            omega
            rintro e w9 ⟨rfl, hb⟩
            rw [HSG.out]
            have HO9 := Lib.hid (OwnV.below HO1.out hb)
            have K0_4 := Lib.hid (K0_3.out.after hb)
            have K1_4 := Lib.hid (K1_3.out.after hb)
            have K2_4 := Lib.hid (K2_3.out.after hb)
            have HB_4 := Lib.hid (HB_3.out.trans (hb.mono HB_3.out.size))
            clear hb
            have hk0c1_4 := K0_4.out.c1
            have hk0c0_4 := K0_4.out.c0
            have hk1c0_4 := K1_4.out.c0
            have hk2c0_4 := K2_4.out.c0
            have hk2c1_4 := K2_4.out.c1
            have hk2f0_4 := K2_4.out.f0
            have hk2f1_4 := K2_4.out.f1))
     go_wp2
     have hr0 := K2_4.out.c0
     have hr1 := K2_4.out.c1
     exact bodyPost_ret (v := .agg #[.bool (sgZ z), .slice A1 (nats (magZ z)).length c1]) (by simp [results, Tryz.results112, go_sem, hr0, hr1]) rfl (ownRB_close HB_4.out HO9.out K2_2.out.lt (by omega))
   · rw [Bool.not_eq_true] at hok2
     rw [hok2]
     obtain rfl : RS = false := by rw [← HRS.out, hok, hok2]; simp [resS]
     obtain rfl : RM = [] := by rw [← HRM.out, hok, hok2]; simp [resM]
     have hk2c0_2 := K2_2.out.c0
     have hk2c1_2 := K2_2.out.c1
     have hk2f0_2 := K2_2.out.f0
     have hk2f1_2 := K2_2.out.f1
     go_wp2
     exact bodyPost_ret (v := .agg #[.bool false, .slice none 0 0]) (by simp [results, Tryz.results112, go_sem, hk2c0_2, hk2c1_2]) rfl (ownRB_close HB_2.out (OwnV.nil _ (w.heap.size + 1 + 1 + 1) _) (Nat.lt_succ_self _) (by omega))
 · rw [Bool.not_eq_true] at hok
   rw [hok]
   obtain rfl : RS = false := by rw [← HRS.out, hok]; simp [resS]
   obtain rfl : RM = [] := by rw [← HRM.out, hok]; simp [resM]
   have hk2c0_1 := K2_1.out.c0
   have hk2c1_1 := K2_1.out.c1
   have hk2f0_1 := K2_1.out.f0
   have hk2f1_1 := K2_1.out.f1
   go_wp2
   exact bodyPost_ret (v := .agg #[.bool false, .slice none 0 0]) (by simp [results, Tryz.results112, go_sem, hk2c0_1, hk2c1_1]) rfl (ownRB_close HB_1.out (OwnV.nil _ (w.heap.size + 1 + 1 + 1) _) (Nat.lt_succ_self _) (by omega))
set_option maxRecDepth 100000 in
set_option maxHeartbeats 4000000 in
theorem sumOf_true_false (A B : Option Addr) (n c m d : Nat) (xs ys : List Int) (w : World) (hA : VRow w A n (ints xs)) (hB : VRow w B m (ints ys)) (hn : n ≤ maxLen) (hm : m ≤ maxLen) :
   Calls Tryz.prog 112 #[.agg #[.slice A n c, .bool true], .agg #[.slice B m d, .bool false]] w (OwnRB 3 (resS (okB true xs && okB false ys) (zOf true xs + zOf false ys)) (nats (resM (okB true xs && okB false ys) (zOf true xs + zOf false ys))) w) := by
 obtain ⟨z, hz⟩ : ∃ z, zOf true xs + zOf false ys = z := ⟨_, rfl⟩
 rw [hz]
 have HZ := Lib.hid hz
 clear hz
 obtain ⟨RS, hRS⟩ : ∃ b, resS (okB true xs && okB false ys) z = b := ⟨_, rfl⟩
 obtain ⟨RM, hRM⟩ : ∃ l, resM (okB true xs && okB false ys) z = l := ⟨_, rfl⟩
 rw [hRS, hRM]
 have HRS := Lib.hid hRS
 have HRM := Lib.hid hRM
 clear hRS hRM
 have HA := Lib.hid hA
 have HB := Lib.hid hB
 have HN := Lib.hid hn
 have HM := Lib.hid hm
 have HL := Lib.hid (show xs.length = n by simpa [ints] using hA.1)
 have HL2 := Lib.hid (show ys.length = m by simpa [ints] using hB.1)
 clear hA hB hn hm
 go_enter Tryz.func112, Tryz.ntmps112
 have HB_0 := Lib.hid ((((Below.refl w.heap.size w).alloc (Nat.le_refl _) (.cells #[.slice A n c, .bool true] 137)).alloc (by simp) (.cells #[.slice B m d, .bool false] 137)).alloc (by simp; omega) (.cells #[.bool false, .slice none 0 0] 35))
 have K0_0 := Lib.hid (((Held.new_at w (w.heap.size) (.slice A n c) (.bool true) 137 (by first | rfl | simp)).alloc (.cells #[.slice B m d, .bool false] 137)).alloc (.cells #[.bool false, .slice none 0 0] 35))
 have K1_0 := Lib.hid ((Held.new_at (w.alloc (.cells #[.slice A n c, .bool true] 137)) (w.heap.size + 1) (.slice B m d) (.bool false) 137 (by first | rfl | simp)).alloc (.cells #[.bool false, .slice none 0 0] 35))
 have K2_0 := Lib.hid (Held.new_at ((w.alloc (.cells #[.slice A n c, .bool true] 137)).alloc (.cells #[.slice B m d, .bool false] 137)) (w.heap.size + 1 + 1) (.bool false) (.slice none 0 0) 35 (by first | rfl | simp))
 have hne01 : w.heap.size ≠ w.heap.size + 1 := by omega
 have hne02 : w.heap.size ≠ w.heap.size + 1 + 1 := by omega
 have hne10 : w.heap.size + 1 ≠ w.heap.size := by omega
 have hne12 : w.heap.size + 1 ≠ w.heap.size + 1 + 1 := by omega
 have hne20 : w.heap.size + 1 + 1 ≠ w.heap.size := by omega
 have hne21 : w.heap.size + 1 + 1 ≠ w.heap.size + 1 := by omega
 go_wp2_with fail
 refine (isValid_any true A n c xs _ (HA.out.below HB_0.out (Nat.le_refl _)) HN.out).mono ?_
 rintro e w0 ⟨rfl, hb⟩
 have K0_1 := Lib.hid (K0_0.out.after hb)
 have K1_1 := Lib.hid (K1_0.out.after hb)
 have K2_1 := Lib.hid (K2_0.out.after hb)
 have HB_1 := Lib.hid (HB_0.out.trans (hb.mono HB_0.out.size))
 clear hb
 by_cases hok : okB true xs = true
 · rw [hok]
   have hk1c0_1 := K1_1.out.c0
   have hk1c1_1 := K1_1.out.c1
   go_wp2_with fail
   refine (isValid_any false B m d ys _ (HB.out.below HB_1.out (Nat.le_refl _)) HM.out).mono ?_
   rintro e w01 ⟨rfl, hb⟩
   have K0_2 := Lib.hid (K0_1.out.after hb)
   have K1_2 := Lib.hid (K1_1.out.after hb)
   have K2_2 := Lib.hid (K2_1.out.after hb)
   have HB_2 := Lib.hid (HB_1.out.trans (hb.mono HB_1.out.size))
   clear hb
   clear hk1c0_1
   clear hk1c1_1
   by_cases hok2 : okB false ys = true
   · rw [hok2]
     obtain rfl : RS = sgZ z := by rw [← HRS.out, hok, hok2]; simp [resS]
     obtain rfl : RM = magZ z := by rw [← HRM.out, hok, hok2]; simp [resM]
     obtain ⟨hex, hcanx, hl60x⟩ := okI_nats (okB_ok hok)
     have hlenx : n ≤ 60 := by have h1 := HL.out; rw [toN_len] at hl60x; omega
     have HAn := Lib.hid (hex ▸ HA.out)
     have HCx := Lib.hid hcanx
     clear hex hcanx hl60x
     obtain ⟨hey, hcany, hl60y⟩ := okI_nats (okB_ok hok2)
     have hleny : m ≤ 60 := by have h1 := HL2.out; rw [toN_len] at hl60y; omega
     have HBn := Lib.hid (hey ▸ HB.out)
     have HCy := Lib.hid hcany
     clear hey hcany hl60y
     have HOK := Lib.hid hok
     have HOK2 := Lib.hid hok2
     clear hok hok2
     have HLEN := Lib.hid (show (nats (magZ z)).length ≤ 60 by rw [nats_len]; exact capd_len _)
     have hlen9 := HLEN.out
     have hk0c0_2 := K0_2.out.c0
     have hk0c1_2 := K0_2.out.c1
     have hk1c0_2 := K1_2.out.c0
     have hk1c1_2 := K1_2.out.c1
     have hk2c0_2 := K2_2.out.c0
     have hk2c1_2 := K2_2.out.c1
     have hk2f0_2 := K2_2.out.f0
     have hk2f1_2 := K2_2.out.f1
     go_wp2_with fail
     refine (magCmp_any A B n c m d xs ys _ (HA.out.below HB_2.out (Nat.le_refl _)) (HB.out.below HB_2.out (Nat.le_refl _)) HN.out HM.out).mono ?_
     rintro e w02 ⟨rfl, hb⟩
     have K0_3 := Lib.hid (K0_2.out.after hb)
     have K1_3 := Lib.hid (K1_2.out.after hb)
     have K2_3 := Lib.hid (K2_2.out.after hb)
     have HB_3 := Lib.hid (HB_2.out.trans (hb.mono HB_2.out.size))
     clear hb
     clear hk0c0_2
     clear hk0c1_2
     clear hk1c0_2
     clear hk1c1_2
     clear hk2c0_2
     clear hk2c1_2
     clear hk2f0_2
     clear hk2f1_2
     have hk0c0_3 := K0_3.out.c0
     have hk0c1_3 := K0_3.out.c1
     have hk1c0_3 := K1_3.out.c0
     have hk1c1_3 := K1_3.out.c1
     have hk2c0_3 := K2_3.out.c0
     have hk2c1_3 := K2_3.out.c1
     have hk2f0_3 := K2_3.out.f0
     have hk2f1_3 := K2_3.out.f1
     have hk0f0_3 := K0_3.out.f0
     have hk0f1_3 := K0_3.out.f1
     have hk1f0_3 := K1_3.out.f0
     have hk1f1_3 := K1_3.out.f1
     have HCM := Lib.hid (show cmpI xs ys = sgn (val (toN xs)) (val (toN ys)) by rw [cmpI, if_pos ⟨okB_ok HOK.out, okB_ok HOK2.out⟩])
     by_cases hge : val (toN ys) ≤ val (toN xs)
     · obtain ⟨q, hq⟩ : ∃ q : Int, cmpI xs ys = q := ⟨_, rfl⟩
       have hq0 : 0 ≤ q := by rw [← hq, HCM.out]; unfold sgn; split; omega; split <;> omega
       have hq1 : ¬ q < 0 := by omega
       rw [hq]
       clear hq
       have HMG := Lib.hid (show nats (subN xs ys) = nats (magZ z) by rw [subN_yes (okB_ok HOK.out) (okB_ok HOK2.out), ← HZ.out, zOf, zOf, show signed true (val (toN xs)) + signed false (val (toN ys)) = signed true (val (toN xs) - val (toN ys)) from (signed_sub true _ _ hge).symm, magZ_signed, capd_of (Nat.lt_of_le_of_lt (Nat.sub_le _ _) (okB_val HOK.out))])
       have HSG := Lib.hid (show (true && decide (0 < (nats (magZ z)).length)) = sgZ z by rw [nats_len, ← HZ.out, zOf, zOf, show signed true (val (toN xs)) + signed false (val (toN ys)) = signed true (val (toN xs) - val (toN ys)) from (signed_sub true _ _ hge).symm, sgZ_signed, magZ_signed])
       clear hge
       go_wp2
       go_region_held3 (fun w' => w'.cell? ⟨w.heap.size, 1, none⟩ = some (.bool true) ∧ w'.cell? ⟨w.heap.size, 0, none⟩ = some (.slice A n c) ∧ w'.cell? ⟨w.heap.size + 1, 0, none⟩ = some (.slice B m d)) (go_keep)
         (first
           | (go_at_call 133
              refine (minus_any A B n c m d xs ys _ (HA.out.below HB_3.out.drew (Nat.le_refl _)) (HB.out.below HB_3.out.drew (Nat.le_refl _)) HN.out HM.out).mono ?_
              rintro e w2 ⟨v2, rfl, ho, hb⟩
              rw [HMG.out] at ho
              obtain ⟨A1, c1, rfl⟩ := ho.shape
              have HO1 := Lib.hid ho
              clear ho
              have K0_4 := Lib.hid (K0_3.out.drew.after hb)
              have K1_4 := Lib.hid (K1_3.out.drew.after hb)
              have K2_4 := Lib.hid (K2_3.out.drew.after hb)
              have HB_4 := Lib.hid (HB_3.out.drew.trans (hb.mono HB_3.out.drew.size))
              clear hb
              have hk0c1_4 := K0_4.out.c1
              have hk0c0_4 := K0_4.out.c0
              have hk1c0_4 := K1_4.out.c0)
           | (go_at_call 111
              refine (bigIntWith_any true A1 _ c1 _ ?_).mono ?_
              omega
              rintro e w9 ⟨rfl, hb⟩
              rw [HSG.out]
              have HO9 := Lib.hid (OwnV.below HO1.out hb)
              have K0_5 := Lib.hid (K0_4.out.after hb)
              have K1_5 := Lib.hid (K1_4.out.after hb)
              have K2_5 := Lib.hid (K2_4.out.after hb)
              have HB_5 := Lib.hid (HB_4.out.trans (hb.mono HB_4.out.size))
              clear hb
              have hk0c1_5 := K0_5.out.c1
              have hk0c0_5 := K0_5.out.c0
              have hk1c0_5 := K1_5.out.c0
              have hk2c0_5 := K2_5.out.c0
              have hk2c1_5 := K2_5.out.c1
              have hk2f0_5 := K2_5.out.f0
              have hk2f1_5 := K2_5.out.f1))
       go_wp2
       have hr0 := K2_5.out.c0
       have hr1 := K2_5.out.c1
       exact bodyPost_ret (v := .agg #[.bool (sgZ z), .slice A1 (nats (magZ z)).length c1]) (by simp [results, Tryz.results112, go_sem, hr0, hr1]) rfl (ownRB_close HB_5.out HO9.out K2_3.out.lt (by omega))
     · have hlt : val (toN xs) < val (toN ys) := by omega
       have hq : cmpI xs ys = -1 := by rw [HCM.out, sgn_lt hlt]
       rw [hq]
       clear hq hge
       have HMG := Lib.hid (show nats (subN ys xs) = nats (magZ z) by rw [subN_yes (okB_ok HOK2.out) (okB_ok HOK.out), ← HZ.out, zOf, zOf, show signed true (val (toN xs)) + signed false (val (toN ys)) = signed false (val (toN ys) - val (toN xs)) from (Int.add_comm _ _).trans (signed_sub false _ _ (Nat.le_of_lt hlt)).symm, magZ_signed, capd_of (Nat.lt_of_le_of_lt (Nat.sub_le _ _) (okB_val HOK2.out))])
       have HSG := Lib.hid (show (false && decide (0 < (nats (magZ z)).length)) = sgZ z by rw [nats_len, ← HZ.out, zOf, zOf, show signed true (val (toN xs)) + signed false (val (toN ys)) = signed false (val (toN ys) - val (toN xs)) from (Int.add_comm _ _).trans (signed_sub false _ _ (Nat.le_of_lt hlt)).symm, sgZ_signed, magZ_signed])
       clear hlt
       go_wp2
       clear hk0c0_3
       clear hk0c1_3
       clear hk1c0_3
       clear hk1c1_3
       clear hk2c0_3
       clear hk2c1_3
       clear hk2f0_3
       clear hk2f1_3
       clear hk0f0_3
       clear hk0f1_3
       clear hk1f0_3
       clear hk1f1_3
       have K0_4 := Lib.hid ((((K0_3.out.set0 (.slice B m d)).set1 (.bool false)).setOther (p := ⟨w.heap.size + 1, 0, none⟩) hne01 (.slice A n c)).setOther (p := ⟨w.heap.size + 1, 1, none⟩) hne01 (.bool true))
       have K1_4 := Lib.hid ((((K1_3.out.setOther (p := ⟨w.heap.size, 0, none⟩) hne10 (.slice B m d)).setOther (p := ⟨w.heap.size, 1, none⟩) hne10 (.bool false)).set0 (.slice A n c)).set1 (.bool true))
       have K2_4 := Lib.hid ((((K2_3.out.setOther (p := ⟨w.heap.size, 0, none⟩) hne20 (.slice B m d)).setOther (p := ⟨w.heap.size, 1, none⟩) hne20 (.bool false)).setOther (p := ⟨w.heap.size + 1, 0, none⟩) hne21 (.slice A n c)).setOther (p := ⟨w.heap.size + 1, 1, none⟩) hne21 (.bool true))
       have HB_4 := Lib.hid ((((HB_3.out.setCell (p := ⟨w.heap.size, 0, none⟩) (Nat.le_refl _) (.slice B m d)).setCell (p := ⟨w.heap.size, 1, none⟩) (Nat.le_refl _) (.bool false)).setCell (p := ⟨w.heap.size + 1, 0, none⟩) (Nat.le_succ _) (.slice A n c)).setCell (p := ⟨w.heap.size + 1, 1, none⟩) (Nat.le_succ _) (.bool true))
       obtain ⟨w03, hw03⟩ : ∃ u, ((((w02.setCell ⟨w.heap.size, 0, none⟩ (.slice B m d)).setCell ⟨w.heap.size, 1, none⟩ (.bool false)).setCell ⟨w.heap.size + 1, 0, none⟩ (.slice A n c)).setCell ⟨w.heap.size + 1, 1, none⟩ (.bool true)) = u := ⟨_, rfl⟩
       rw [hw03] at K0_4 K1_4 K2_4 HB_4 ⊢
       clear hw03
       have hk0c0_4 := K0_4.out.c0
       have hk0c1_4 := K0_4.out.c1
       have hk1c0_4 := K1_4.out.c0
       have hk1c1_4 := K1_4.out.c1
       have hk2c0_4 := K2_4.out.c0
       have hk2c1_4 := K2_4.out.c1
       have hk2f0_4 := K2_4.out.f0
       have hk2f1_4 := K2_4.out.f1
       go_wp2
       go_region_held3 (fun w' => w'.cell? ⟨w.heap.size, 1, none⟩ = some (.bool false) ∧ w'.cell? ⟨w.heap.size, 0, none⟩ = some (.slice B m d) ∧ w'.cell? ⟨w.heap.size + 1, 0, none⟩ = some (.slice A n c)) (go_keep)
         (first
           | (go_at_call 133
              refine (minus_any B A m d n c ys xs _ (HB.out.below HB_4.out.drew (Nat.le_refl _)) (HA.out.below HB_4.out.drew (Nat.le_refl _)) HM.out HN.out).mono ?_
              rintro e w2 ⟨v2, rfl, ho, hb⟩
              rw [HMG.out] at ho
              obtain ⟨A1, c1, rfl⟩ := ho.shape
              have HO1 := Lib.hid ho
              clear ho
              have K0_5 := Lib.hid (K0_4.out.drew.after hb)
              have K1_5 := Lib.hid (K1_4.out.drew.after hb)
              have K2_5 := Lib.hid (K2_4.out.drew.after hb)
              have HB_5 := Lib.hid (HB_4.out.drew.trans (hb.mono HB_4.out.drew.size))
              clear hb
              have hk0c1_5 := K0_5.out.c1
              have hk0c0_5 := K0_5.out.c0
              have hk1c0_5 := K1_5.out.c0)
           | (go_at_call 111
              refine (bigIntWith_any false A1 _ c1 _ ?_).mono ?_
              omega
              rintro e w9 ⟨rfl, hb⟩
              rw [HSG.out]
              have HO9 := Lib.hid (OwnV.below HO1.out hb)
              have K0_6 := Lib.hid (K0_5.out.after hb)
              have K1_6 := Lib.hid (K1_5.out.after hb)
              have K2_6 := Lib.hid (K2_5.out.after hb)
              have HB_6 := Lib.hid (HB_5.out.trans (hb.mono HB_5.out.size))
              clear hb
              have hk0c1_6 := K0_6.out.c1
              have hk0c0_6 := K0_6.out.c0
              have hk1c0_6 := K1_6.out.c0
              have hk2c0_6 := K2_6.out.c0
              have hk2c1_6 := K2_6.out.c1
              have hk2f0_6 := K2_6.out.f0
              have hk2f1_6 := K2_6.out.f1))
       go_wp2
       have hr0 := K2_6.out.c0
       have hr1 := K2_6.out.c1
       exact bodyPost_ret (v := .agg #[.bool (sgZ z), .slice A1 (nats (magZ z)).length c1]) (by simp [results, Tryz.results112, go_sem, hr0, hr1]) rfl (ownRB_close HB_6.out HO9.out K2_4.out.lt (by omega))
   · rw [Bool.not_eq_true] at hok2
     rw [hok2]
     obtain rfl : RS = false := by rw [← HRS.out, hok, hok2]; simp [resS]
     obtain rfl : RM = [] := by rw [← HRM.out, hok, hok2]; simp [resM]
     have hk2c0_2 := K2_2.out.c0
     have hk2c1_2 := K2_2.out.c1
     have hk2f0_2 := K2_2.out.f0
     have hk2f1_2 := K2_2.out.f1
     go_wp2
     exact bodyPost_ret (v := .agg #[.bool false, .slice none 0 0]) (by simp [results, Tryz.results112, go_sem, hk2c0_2, hk2c1_2]) rfl (ownRB_close HB_2.out (OwnV.nil _ (w.heap.size + 1 + 1 + 1) _) (Nat.lt_succ_self _) (by omega))
 · rw [Bool.not_eq_true] at hok
   rw [hok]
   obtain rfl : RS = false := by rw [← HRS.out, hok]; simp [resS]
   obtain rfl : RM = [] := by rw [← HRM.out, hok]; simp [resM]
   have hk2c0_1 := K2_1.out.c0
   have hk2c1_1 := K2_1.out.c1
   have hk2f0_1 := K2_1.out.f0
   have hk2f1_1 := K2_1.out.f1
   go_wp2
   exact bodyPost_ret (v := .agg #[.bool false, .slice none 0 0]) (by simp [results, Tryz.results112, go_sem, hk2c0_1, hk2c1_1]) rfl (ownRB_close HB_1.out (OwnV.nil _ (w.heap.size + 1 + 1 + 1) _) (Nat.lt_succ_self _) (by omega))
set_option maxRecDepth 100000 in
set_option maxHeartbeats 4000000 in
theorem sumOf_false_true (A B : Option Addr) (n c m d : Nat) (xs ys : List Int) (w : World) (hA : VRow w A n (ints xs)) (hB : VRow w B m (ints ys)) (hn : n ≤ maxLen) (hm : m ≤ maxLen) :
   Calls Tryz.prog 112 #[.agg #[.slice A n c, .bool false], .agg #[.slice B m d, .bool true]] w (OwnRB 3 (resS (okB false xs && okB true ys) (zOf false xs + zOf true ys)) (nats (resM (okB false xs && okB true ys) (zOf false xs + zOf true ys))) w) := by
 obtain ⟨z, hz⟩ : ∃ z, zOf false xs + zOf true ys = z := ⟨_, rfl⟩
 rw [hz]
 have HZ := Lib.hid hz
 clear hz
 obtain ⟨RS, hRS⟩ : ∃ b, resS (okB false xs && okB true ys) z = b := ⟨_, rfl⟩
 obtain ⟨RM, hRM⟩ : ∃ l, resM (okB false xs && okB true ys) z = l := ⟨_, rfl⟩
 rw [hRS, hRM]
 have HRS := Lib.hid hRS
 have HRM := Lib.hid hRM
 clear hRS hRM
 have HA := Lib.hid hA
 have HB := Lib.hid hB
 have HN := Lib.hid hn
 have HM := Lib.hid hm
 have HL := Lib.hid (show xs.length = n by simpa [ints] using hA.1)
 have HL2 := Lib.hid (show ys.length = m by simpa [ints] using hB.1)
 clear hA hB hn hm
 go_enter Tryz.func112, Tryz.ntmps112
 have HB_0 := Lib.hid ((((Below.refl w.heap.size w).alloc (Nat.le_refl _) (.cells #[.slice A n c, .bool false] 137)).alloc (by simp) (.cells #[.slice B m d, .bool true] 137)).alloc (by simp; omega) (.cells #[.bool false, .slice none 0 0] 35))
 have K0_0 := Lib.hid (((Held.new_at w (w.heap.size) (.slice A n c) (.bool false) 137 (by first | rfl | simp)).alloc (.cells #[.slice B m d, .bool true] 137)).alloc (.cells #[.bool false, .slice none 0 0] 35))
 have K1_0 := Lib.hid ((Held.new_at (w.alloc (.cells #[.slice A n c, .bool false] 137)) (w.heap.size + 1) (.slice B m d) (.bool true) 137 (by first | rfl | simp)).alloc (.cells #[.bool false, .slice none 0 0] 35))
 have K2_0 := Lib.hid (Held.new_at ((w.alloc (.cells #[.slice A n c, .bool false] 137)).alloc (.cells #[.slice B m d, .bool true] 137)) (w.heap.size + 1 + 1) (.bool false) (.slice none 0 0) 35 (by first | rfl | simp))
 have hne01 : w.heap.size ≠ w.heap.size + 1 := by omega
 have hne02 : w.heap.size ≠ w.heap.size + 1 + 1 := by omega
 have hne10 : w.heap.size + 1 ≠ w.heap.size := by omega
 have hne12 : w.heap.size + 1 ≠ w.heap.size + 1 + 1 := by omega
 have hne20 : w.heap.size + 1 + 1 ≠ w.heap.size := by omega
 have hne21 : w.heap.size + 1 + 1 ≠ w.heap.size + 1 := by omega
 go_wp2_with fail
 refine (isValid_any false A n c xs _ (HA.out.below HB_0.out (Nat.le_refl _)) HN.out).mono ?_
 rintro e w0 ⟨rfl, hb⟩
 have K0_1 := Lib.hid (K0_0.out.after hb)
 have K1_1 := Lib.hid (K1_0.out.after hb)
 have K2_1 := Lib.hid (K2_0.out.after hb)
 have HB_1 := Lib.hid (HB_0.out.trans (hb.mono HB_0.out.size))
 clear hb
 by_cases hok : okB false xs = true
 · rw [hok]
   have hk1c0_1 := K1_1.out.c0
   have hk1c1_1 := K1_1.out.c1
   go_wp2_with fail
   refine (isValid_any true B m d ys _ (HB.out.below HB_1.out (Nat.le_refl _)) HM.out).mono ?_
   rintro e w01 ⟨rfl, hb⟩
   have K0_2 := Lib.hid (K0_1.out.after hb)
   have K1_2 := Lib.hid (K1_1.out.after hb)
   have K2_2 := Lib.hid (K2_1.out.after hb)
   have HB_2 := Lib.hid (HB_1.out.trans (hb.mono HB_1.out.size))
   clear hb
   clear hk1c0_1
   clear hk1c1_1
   by_cases hok2 : okB true ys = true
   · rw [hok2]
     obtain rfl : RS = sgZ z := by rw [← HRS.out, hok, hok2]; simp [resS]
     obtain rfl : RM = magZ z := by rw [← HRM.out, hok, hok2]; simp [resM]
     obtain ⟨hex, hcanx, hl60x⟩ := okI_nats (okB_ok hok)
     have hlenx : n ≤ 60 := by have h1 := HL.out; rw [toN_len] at hl60x; omega
     have HAn := Lib.hid (hex ▸ HA.out)
     have HCx := Lib.hid hcanx
     clear hex hcanx hl60x
     obtain ⟨hey, hcany, hl60y⟩ := okI_nats (okB_ok hok2)
     have hleny : m ≤ 60 := by have h1 := HL2.out; rw [toN_len] at hl60y; omega
     have HBn := Lib.hid (hey ▸ HB.out)
     have HCy := Lib.hid hcany
     clear hey hcany hl60y
     have HOK := Lib.hid hok
     have HOK2 := Lib.hid hok2
     clear hok hok2
     have HLEN := Lib.hid (show (nats (magZ z)).length ≤ 60 by rw [nats_len]; exact capd_len _)
     have hlen9 := HLEN.out
     have hk0c0_2 := K0_2.out.c0
     have hk0c1_2 := K0_2.out.c1
     have hk1c0_2 := K1_2.out.c0
     have hk1c1_2 := K1_2.out.c1
     have hk2c0_2 := K2_2.out.c0
     have hk2c1_2 := K2_2.out.c1
     have hk2f0_2 := K2_2.out.f0
     have hk2f1_2 := K2_2.out.f1
     go_wp2_with fail
     refine (magCmp_any A B n c m d xs ys _ (HA.out.below HB_2.out (Nat.le_refl _)) (HB.out.below HB_2.out (Nat.le_refl _)) HN.out HM.out).mono ?_
     rintro e w02 ⟨rfl, hb⟩
     have K0_3 := Lib.hid (K0_2.out.after hb)
     have K1_3 := Lib.hid (K1_2.out.after hb)
     have K2_3 := Lib.hid (K2_2.out.after hb)
     have HB_3 := Lib.hid (HB_2.out.trans (hb.mono HB_2.out.size))
     clear hb
     clear hk0c0_2
     clear hk0c1_2
     clear hk1c0_2
     clear hk1c1_2
     clear hk2c0_2
     clear hk2c1_2
     clear hk2f0_2
     clear hk2f1_2
     have hk0c0_3 := K0_3.out.c0
     have hk0c1_3 := K0_3.out.c1
     have hk1c0_3 := K1_3.out.c0
     have hk1c1_3 := K1_3.out.c1
     have hk2c0_3 := K2_3.out.c0
     have hk2c1_3 := K2_3.out.c1
     have hk2f0_3 := K2_3.out.f0
     have hk2f1_3 := K2_3.out.f1
     have hk0f0_3 := K0_3.out.f0
     have hk0f1_3 := K0_3.out.f1
     have hk1f0_3 := K1_3.out.f0
     have hk1f1_3 := K1_3.out.f1
     have HCM := Lib.hid (show cmpI xs ys = sgn (val (toN xs)) (val (toN ys)) by rw [cmpI, if_pos ⟨okB_ok HOK.out, okB_ok HOK2.out⟩])
     by_cases hge : val (toN ys) ≤ val (toN xs)
     · obtain ⟨q, hq⟩ : ∃ q : Int, cmpI xs ys = q := ⟨_, rfl⟩
       have hq0 : 0 ≤ q := by rw [← hq, HCM.out]; unfold sgn; split; omega; split <;> omega
       have hq1 : ¬ q < 0 := by omega
       rw [hq]
       clear hq
       have HMG := Lib.hid (show nats (subN xs ys) = nats (magZ z) by rw [subN_yes (okB_ok HOK.out) (okB_ok HOK2.out), ← HZ.out, zOf, zOf, show signed false (val (toN xs)) + signed true (val (toN ys)) = signed false (val (toN xs) - val (toN ys)) from (signed_sub false _ _ hge).symm, magZ_signed, capd_of (Nat.lt_of_le_of_lt (Nat.sub_le _ _) (okB_val HOK.out))])
       have HSG := Lib.hid (show (false && decide (0 < (nats (magZ z)).length)) = sgZ z by rw [nats_len, ← HZ.out, zOf, zOf, show signed false (val (toN xs)) + signed true (val (toN ys)) = signed false (val (toN xs) - val (toN ys)) from (signed_sub false _ _ hge).symm, sgZ_signed, magZ_signed])
       clear hge
       go_wp2
       go_region_held3 (fun w' => w'.cell? ⟨w.heap.size, 1, none⟩ = some (.bool false) ∧ w'.cell? ⟨w.heap.size, 0, none⟩ = some (.slice A n c) ∧ w'.cell? ⟨w.heap.size + 1, 0, none⟩ = some (.slice B m d)) (go_keep)
         (first
           | (go_at_call 133
              refine (minus_any A B n c m d xs ys _ (HA.out.below HB_3.out.drew (Nat.le_refl _)) (HB.out.below HB_3.out.drew (Nat.le_refl _)) HN.out HM.out).mono ?_
              rintro e w2 ⟨v2, rfl, ho, hb⟩
              rw [HMG.out] at ho
              obtain ⟨A1, c1, rfl⟩ := ho.shape
              have HO1 := Lib.hid ho
              clear ho
              have K0_4 := Lib.hid (K0_3.out.drew.after hb)
              have K1_4 := Lib.hid (K1_3.out.drew.after hb)
              have K2_4 := Lib.hid (K2_3.out.drew.after hb)
              have HB_4 := Lib.hid (HB_3.out.drew.trans (hb.mono HB_3.out.drew.size))
              clear hb
              have hk0c1_4 := K0_4.out.c1
              have hk0c0_4 := K0_4.out.c0
              have hk1c0_4 := K1_4.out.c0)
           | (go_at_call 111
              refine (bigIntWith_any false A1 _ c1 _ ?_).mono ?_
              omega
              rintro e w9 ⟨rfl, hb⟩
              rw [HSG.out]
              have HO9 := Lib.hid (OwnV.below HO1.out hb)
              have K0_5 := Lib.hid (K0_4.out.after hb)
              have K1_5 := Lib.hid (K1_4.out.after hb)
              have K2_5 := Lib.hid (K2_4.out.after hb)
              have HB_5 := Lib.hid (HB_4.out.trans (hb.mono HB_4.out.size))
              clear hb
              have hk0c1_5 := K0_5.out.c1
              have hk0c0_5 := K0_5.out.c0
              have hk1c0_5 := K1_5.out.c0
              have hk2c0_5 := K2_5.out.c0
              have hk2c1_5 := K2_5.out.c1
              have hk2f0_5 := K2_5.out.f0
              have hk2f1_5 := K2_5.out.f1))
       go_wp2
       have hr0 := K2_5.out.c0
       have hr1 := K2_5.out.c1
       exact bodyPost_ret (v := .agg #[.bool (sgZ z), .slice A1 (nats (magZ z)).length c1]) (by simp [results, Tryz.results112, go_sem, hr0, hr1]) rfl (ownRB_close HB_5.out HO9.out K2_3.out.lt (by omega))
     · have hlt : val (toN xs) < val (toN ys) := by omega
       have hq : cmpI xs ys = -1 := by rw [HCM.out, sgn_lt hlt]
       rw [hq]
       clear hq hge
       have HMG := Lib.hid (show nats (subN ys xs) = nats (magZ z) by rw [subN_yes (okB_ok HOK2.out) (okB_ok HOK.out), ← HZ.out, zOf, zOf, show signed false (val (toN xs)) + signed true (val (toN ys)) = signed true (val (toN ys) - val (toN xs)) from (Int.add_comm _ _).trans (signed_sub true _ _ (Nat.le_of_lt hlt)).symm, magZ_signed, capd_of (Nat.lt_of_le_of_lt (Nat.sub_le _ _) (okB_val HOK2.out))])
       have HSG := Lib.hid (show (true && decide (0 < (nats (magZ z)).length)) = sgZ z by rw [nats_len, ← HZ.out, zOf, zOf, show signed false (val (toN xs)) + signed true (val (toN ys)) = signed true (val (toN ys) - val (toN xs)) from (Int.add_comm _ _).trans (signed_sub true _ _ (Nat.le_of_lt hlt)).symm, sgZ_signed, magZ_signed])
       clear hlt
       go_wp2
       clear hk0c0_3
       clear hk0c1_3
       clear hk1c0_3
       clear hk1c1_3
       clear hk2c0_3
       clear hk2c1_3
       clear hk2f0_3
       clear hk2f1_3
       clear hk0f0_3
       clear hk0f1_3
       clear hk1f0_3
       clear hk1f1_3
       have K0_4 := Lib.hid ((((K0_3.out.set0 (.slice B m d)).set1 (.bool true)).setOther (p := ⟨w.heap.size + 1, 0, none⟩) hne01 (.slice A n c)).setOther (p := ⟨w.heap.size + 1, 1, none⟩) hne01 (.bool false))
       have K1_4 := Lib.hid ((((K1_3.out.setOther (p := ⟨w.heap.size, 0, none⟩) hne10 (.slice B m d)).setOther (p := ⟨w.heap.size, 1, none⟩) hne10 (.bool true)).set0 (.slice A n c)).set1 (.bool false))
       have K2_4 := Lib.hid ((((K2_3.out.setOther (p := ⟨w.heap.size, 0, none⟩) hne20 (.slice B m d)).setOther (p := ⟨w.heap.size, 1, none⟩) hne20 (.bool true)).setOther (p := ⟨w.heap.size + 1, 0, none⟩) hne21 (.slice A n c)).setOther (p := ⟨w.heap.size + 1, 1, none⟩) hne21 (.bool false))
       have HB_4 := Lib.hid ((((HB_3.out.setCell (p := ⟨w.heap.size, 0, none⟩) (Nat.le_refl _) (.slice B m d)).setCell (p := ⟨w.heap.size, 1, none⟩) (Nat.le_refl _) (.bool true)).setCell (p := ⟨w.heap.size + 1, 0, none⟩) (Nat.le_succ _) (.slice A n c)).setCell (p := ⟨w.heap.size + 1, 1, none⟩) (Nat.le_succ _) (.bool false))
       obtain ⟨w03, hw03⟩ : ∃ u, ((((w02.setCell ⟨w.heap.size, 0, none⟩ (.slice B m d)).setCell ⟨w.heap.size, 1, none⟩ (.bool true)).setCell ⟨w.heap.size + 1, 0, none⟩ (.slice A n c)).setCell ⟨w.heap.size + 1, 1, none⟩ (.bool false)) = u := ⟨_, rfl⟩
       rw [hw03] at K0_4 K1_4 K2_4 HB_4 ⊢
       clear hw03
       have hk0c0_4 := K0_4.out.c0
       have hk0c1_4 := K0_4.out.c1
       have hk1c0_4 := K1_4.out.c0
       have hk1c1_4 := K1_4.out.c1
       have hk2c0_4 := K2_4.out.c0
       have hk2c1_4 := K2_4.out.c1
       have hk2f0_4 := K2_4.out.f0
       have hk2f1_4 := K2_4.out.f1
       go_wp2
       go_region_held3 (fun w' => w'.cell? ⟨w.heap.size, 1, none⟩ = some (.bool true) ∧ w'.cell? ⟨w.heap.size, 0, none⟩ = some (.slice B m d) ∧ w'.cell? ⟨w.heap.size + 1, 0, none⟩ = some (.slice A n c)) (go_keep)
         (first
           | (go_at_call 133
              refine (minus_any B A m d n c ys xs _ (HB.out.below HB_4.out.drew (Nat.le_refl _)) (HA.out.below HB_4.out.drew (Nat.le_refl _)) HM.out HN.out).mono ?_
              rintro e w2 ⟨v2, rfl, ho, hb⟩
              rw [HMG.out] at ho
              obtain ⟨A1, c1, rfl⟩ := ho.shape
              have HO1 := Lib.hid ho
              clear ho
              have K0_5 := Lib.hid (K0_4.out.drew.after hb)
              have K1_5 := Lib.hid (K1_4.out.drew.after hb)
              have K2_5 := Lib.hid (K2_4.out.drew.after hb)
              have HB_5 := Lib.hid (HB_4.out.drew.trans (hb.mono HB_4.out.drew.size))
              clear hb
              have hk0c1_5 := K0_5.out.c1
              have hk0c0_5 := K0_5.out.c0
              have hk1c0_5 := K1_5.out.c0)
           | (go_at_call 111
              refine (bigIntWith_any true A1 _ c1 _ ?_).mono ?_
              omega
              rintro e w9 ⟨rfl, hb⟩
              rw [HSG.out]
              have HO9 := Lib.hid (OwnV.below HO1.out hb)
              have K0_6 := Lib.hid (K0_5.out.after hb)
              have K1_6 := Lib.hid (K1_5.out.after hb)
              have K2_6 := Lib.hid (K2_5.out.after hb)
              have HB_6 := Lib.hid (HB_5.out.trans (hb.mono HB_5.out.size))
              clear hb
              have hk0c1_6 := K0_6.out.c1
              have hk0c0_6 := K0_6.out.c0
              have hk1c0_6 := K1_6.out.c0
              have hk2c0_6 := K2_6.out.c0
              have hk2c1_6 := K2_6.out.c1
              have hk2f0_6 := K2_6.out.f0
              have hk2f1_6 := K2_6.out.f1))
       go_wp2
       have hr0 := K2_6.out.c0
       have hr1 := K2_6.out.c1
       exact bodyPost_ret (v := .agg #[.bool (sgZ z), .slice A1 (nats (magZ z)).length c1]) (by simp [results, Tryz.results112, go_sem, hr0, hr1]) rfl (ownRB_close HB_6.out HO9.out K2_4.out.lt (by omega))
   · rw [Bool.not_eq_true] at hok2
     rw [hok2]
     obtain rfl : RS = false := by rw [← HRS.out, hok, hok2]; simp [resS]
     obtain rfl : RM = [] := by rw [← HRM.out, hok, hok2]; simp [resM]
     have hk2c0_2 := K2_2.out.c0
     have hk2c1_2 := K2_2.out.c1
     have hk2f0_2 := K2_2.out.f0
     have hk2f1_2 := K2_2.out.f1
     go_wp2
     exact bodyPost_ret (v := .agg #[.bool false, .slice none 0 0]) (by simp [results, Tryz.results112, go_sem, hk2c0_2, hk2c1_2]) rfl (ownRB_close HB_2.out (OwnV.nil _ (w.heap.size + 1 + 1 + 1) _) (Nat.lt_succ_self _) (by omega))
 · rw [Bool.not_eq_true] at hok
   rw [hok]
   obtain rfl : RS = false := by rw [← HRS.out, hok]; simp [resS]
   obtain rfl : RM = [] := by rw [← HRM.out, hok]; simp [resM]
   have hk2c0_1 := K2_1.out.c0
   have hk2c1_1 := K2_1.out.c1
   have hk2f0_1 := K2_1.out.f0
   have hk2f1_1 := K2_1.out.f1
   go_wp2
   exact bodyPost_ret (v := .agg #[.bool false, .slice none 0 0]) (by simp [results, Tryz.results112, go_sem, hk2c0_1, hk2c1_1]) rfl (ownRB_close HB_1.out (OwnV.nil _ (w.heap.size + 1 + 1 + 1) _) (Nat.lt_succ_self _) (by omega))
theorem sumOf_any (s t : Bool) (A B : Option Addr) (n c m d : Nat) (xs ys : List Int) (w : World) (hA : VRow w A n (ints xs)) (hB : VRow w B m (ints ys)) (hn : n ≤ maxLen) (hm : m ≤ maxLen) :
   Calls Tryz.prog 112 #[.agg #[.slice A n c, .bool s], .agg #[.slice B m d, .bool t]] w (OwnRB 3 (resS (okB s xs && okB t ys) (zOf s xs + zOf t ys)) (nats (resM (okB s xs && okB t ys) (zOf s xs + zOf t ys))) w) := by
 cases s <;> cases t
 · exact sumOf_false_false A B n c m d xs ys w hA hB hn hm
 · exact sumOf_false_true A B n c m d xs ys w hA hB hn hm
 · exact sumOf_true_false A B n c m d xs ys w hA hB hn hm
 · exact sumOf_true_true A B n c m d xs ys w hA hB hn hm
set_option maxRecDepth 100000 in
set_option maxHeartbeats 4000000 in
theorem bigIntAdd_impl (s t : Bool) (A B : Option Addr) (n c m d : Nat) (xs ys : List Int) (w : World) (hA : VRow w A n (ints xs)) (hB : VRow w B m (ints ys)) (hn : n ≤ maxLen) (hm : m ≤ maxLen) :
   Calls Tryz.prog 76 #[.agg #[.bool s, .slice A n c], .agg #[.bool t, .slice B m d]] w (OwnRB 3 (resS (okB s xs && okB t ys) (zOf s xs + zOf t ys)) (nats (resM (okB s xs && okB t ys) (zOf s xs + zOf t ys))) w) := by
 obtain ⟨RS, hRS⟩ : ∃ b, resS (okB s xs && okB t ys) (zOf s xs + zOf t ys) = b := ⟨_, rfl⟩
 obtain ⟨RM, hRM⟩ : ∃ l, nats (resM (okB s xs && okB t ys) (zOf s xs + zOf t ys)) = l := ⟨_, rfl⟩
 rw [hRS, hRM]
 have HRS := Lib.hid hRS
 have HRM := Lib.hid hRM
 clear hRS hRM
 have HA := Lib.hid hA
 have HB := Lib.hid hB
 have HN := Lib.hid hn
 have HM := Lib.hid hm
 have HL := Lib.hid (show xs.length = n by simpa [ints] using hA.1)
 have HL2 := Lib.hid (show ys.length = m by simpa [ints] using hB.1)
 clear hA hB hn hm
 go_enter Tryz.func76, Tryz.ntmps76
 have HB_0 := Lib.hid ((((Below.refl w.heap.size w).alloc (Nat.le_refl _) (.cells #[.bool s, .slice A n c] 35)).alloc (by simp) (.cells #[.bool t, .slice B m d] 35)).alloc (by simp; omega) (.cells #[.bool false, .slice none 0 0] 35))
 have K0_0 := Lib.hid (((Held.new_at w (w.heap.size) (.bool s) (.slice A n c) 35 (by first | rfl | simp)).alloc (.cells #[.bool t, .slice B m d] 35)).alloc (.cells #[.bool false, .slice none 0 0] 35))
 have K1_0 := Lib.hid ((Held.new_at (w.alloc (.cells #[.bool s, .slice A n c] 35)) (w.heap.size + 1) (.bool t) (.slice B m d) 35 (by first | rfl | simp)).alloc (.cells #[.bool false, .slice none 0 0] 35))
 have K2_0 := Lib.hid (Held.new_at ((w.alloc (.cells #[.bool s, .slice A n c] 35)).alloc (.cells #[.bool t, .slice B m d] 35)) (w.heap.size + 1 + 1) (.bool false) (.slice none 0 0) 35 (by first | rfl | simp))
 have hne01 : w.heap.size ≠ w.heap.size + 1 := by omega
 have hne02 : w.heap.size ≠ w.heap.size + 1 + 1 := by omega
 have hne10 : w.heap.size + 1 ≠ w.heap.size := by omega
 have hne12 : w.heap.size + 1 ≠ w.heap.size + 1 + 1 := by omega
 have hne20 : w.heap.size + 1 + 1 ≠ w.heap.size := by omega
 have hne21 : w.heap.size + 1 + 1 ≠ w.heap.size + 1 := by omega
 go_wp2
 have hx1 : Value.bool s = Value.bool s := rfl
 go_region_held3 (fun w' => w'.cell? ⟨w.heap.size, 0, none⟩ = some (.bool s) ∧ w'.cell? ⟨w.heap.size, 1, none⟩ = some (.slice A n c) ∧ w'.cell? ⟨w.heap.size + 1, 0, none⟩ = some (.bool t) ∧ w'.cell? ⟨w.heap.size + 1, 1, none⟩ = some (.slice B m d)) (go_keep)
   (first
     | (go_at_call 113
        refine (signedOf_any s A n c _).mono ?_
        rintro e w1 ⟨rfl, hb⟩
        have K0_1 := Lib.hid (K0_0.out.drew.after hb)
        have K1_1 := Lib.hid (K1_0.out.drew.after hb)
        have K2_1 := Lib.hid (K2_0.out.drew.after hb)
        have HB_1 := Lib.hid (HB_0.out.drew.trans (hb.mono HB_0.out.drew.size))
        clear hb
        have hk0c0_1 := K0_1.out.c0
        have hk0c1_1 := K0_1.out.c1
        have hk1c0_1 := K1_1.out.c0
        have hk1c1_1 := K1_1.out.c1)
     | (go_at_call 113
        refine (signedOf_any t B m d _).mono ?_
        rintro e w2 ⟨rfl, hb⟩
        have K0_2 := Lib.hid (K0_1.out.after hb)
        have K1_2 := Lib.hid (K1_1.out.after hb)
        have K2_2 := Lib.hid (K2_1.out.after hb)
        have HB_2 := Lib.hid (HB_1.out.trans (hb.mono HB_1.out.size))
        clear hb
        have hk0c0_2 := K0_2.out.c0
        have hk0c1_2 := K0_2.out.c1
        have hk1c0_2 := K1_2.out.c0
        have hk1c1_2 := K1_2.out.c1)
     | (go_at_call 112
        have h3 := sumOf_any s t A B n c m d xs ys w2 (HA.out.below HB_2.out (Nat.le_refl _)) (HB.out.below HB_2.out (Nat.le_refl _)) HN.out HM.out
        rw [HRS.out, HRM.out] at h3
        refine h3.mono ?_
        clear h3
        rintro e w9 ⟨v9, rfl, ho9, hb⟩
        obtain ⟨A9, c9, rfl⟩ := ho9.shape
        have HO9 := Lib.hid ho9
        clear ho9
        have K0_3 := Lib.hid (K0_2.out.after hb)
        have K1_3 := Lib.hid (K1_2.out.after hb)
        have K2_3 := Lib.hid (K2_2.out.after hb)
        have HB_3 := Lib.hid (HB_2.out.trans (hb.mono HB_2.out.size))
        clear hb
        have hk0c0_3 := K0_3.out.c0
        have hk0c1_3 := K0_3.out.c1
        have hk1c0_3 := K1_3.out.c0
        have hk1c1_3 := K1_3.out.c1
        have hk2c0_3 := K2_3.out.c0
        have hk2c1_3 := K2_3.out.c1
        have hk2f0_3 := K2_3.out.f0
        have hk2f1_3 := K2_3.out.f1))
 go_wp2
 have hr0 := K2_3.out.c0
 have hr1 := K2_3.out.c1
 exact bodyPost_ret (v := .agg #[.bool RS, .slice A9 RM.length c9]) (by simp [results, Tryz.results76, go_sem, hr0, hr1]) rfl (ownRB_close HB_3.out HO9.out K2_2.out.lt (by omega))
end Go.Proofs.YtaboodioabopnaaGreat
namespace Go.Proofs.YtaboodioabopnaaGreat
open Go.RowKit Nt
set_option linter.unusedVariables false
end Go.Proofs.YtaboodioabopnaaGreat
