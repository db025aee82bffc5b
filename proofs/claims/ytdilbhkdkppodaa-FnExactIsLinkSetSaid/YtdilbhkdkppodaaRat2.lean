/- Fractions in lowest terms: l04Low of the model, reduced of the program. Conditions: none. -/
import Derived.Test.YtdilbhkdkppodaaProg
import Derived.Test.YtdilbhkdkppodaaRat1
import Derived.Test.YtdilbhkdkppodaaBigAdd
namespace Go.Proofs.Ytdilbhkdkppodaa
open Go.RowKit Nt
set_option linter.unusedVariables false

theorem l03Make_let (s : Bool) (A : Option Addr) (n c : Nat) (ds : List Nat) (z : Int) (g : Bool) (M : List Nat) (hz : signed s (val ds) = z) (hg : sgZ z = g) (hM : magZ z = M) (w : World) (hA : Arg w A n c (nats ds)) (hd : Digs ds) :
    Calls Try.prog 72 #[.bool s, .slice A n c] w (OwnRB 3 g (nats M) w) := by
  subst hg hM
  exact l03Make_at s A n c ds z hz w hA.1 hd hA.2.1 hA.2.2.1 hA.2.2.2
set_option maxRecDepth 100000 in
set_option maxHeartbeats 4000000 in
theorem reduced_at (s : Bool) (A : Option Addr) (n c : Nat) (ds : List Nat) (B : Option Addr) (m d : Nat) (bs : List Nat) (z : Int) (b : Nat) (hz : signed s (val ds) = z) (hbv : val bs = b) (w : World) (hA : Arg w A n c (nats ds)) (hB : Arg w B m d (nats bs)) (hds : Canon ds) (hbs : Canon bs) (hn : n ≤ 60) (hm : m ≤ 60) :
    Calls Try.prog 91 #[.agg #[.bool s, .slice A n c], .slice B m d] w (OwnRR 3 (loS z b) (nats (loN z b)) (nats (loD z b)) w) := by
  obtain ⟨a, ha⟩ : ∃ a, val ds = a := ⟨_, rfl⟩
  rw [ha] at hz
  obtain ⟨RS, hRS⟩ : ∃ y9, loS z b = y9 := ⟨_, rfl⟩
  obtain ⟨RN, hRN⟩ : ∃ y9, loN z b = y9 := ⟨_, rfl⟩
  obtain ⟨RD, hRD⟩ : ∃ y9, loD z b = y9 := ⟨_, rfl⟩
  rw [hRS, hRN, hRD]
  have HRS := Lib.hid hRS
  have HRN := Lib.hid hRN
  have HRD := Lib.hid hRD
  clear hRS hRN hRD
  have HZ := Lib.hid hz
  have HAV := Lib.hid ha
  have HBV := Lib.hid hbv
  have HLA := Lib.hid hA.nlen
  have HLB := Lib.hid hB.nlen
  have HIA := Lib.hid (okI_of_nats hds (by rw [hA.nlen]; exact hn))
  have HIB := Lib.hid (okI_of_nats hbs (by rw [hB.nlen]; exact hm))
  have HTA := Lib.hid (show dig a = ds by rw [← ha]; exact dig_of_can hds)
  have HTB := Lib.hid (show dig b = bs by rw [← hbv]; exact dig_of_can hbs)
  clear hz ha hbv
  have HA := Lib.hid hA
  have HB := Lib.hid hB
  have Hds := Lib.hid hds
  have Hbs := Lib.hid hbs
  clear hA hB hds hbs
  go_enter Try.func91, Try.ntmps91
  have HB_0 := Lib.hid (((Below.refl w.heap.size w).alloc (Nat.le_refl _) (.cells #[.bool s, .slice A n c] 31)).alloc (by simp) (.cells #[.bool false, .slice none 0 0, .slice none 0 0] 33))
  have K_a_0 := Lib.hid ((HeldL.new_at w (w.heap.size) [.bool s, .slice A n c] 31 (by first | rfl | simp)).alloc (.cells #[.bool false, .slice none 0 0, .slice none 0 0] 33))
  have K_res_0 := Lib.hid (HeldL.new_at (w.alloc (.cells #[.bool s, .slice A n c] 31)) (w.heap.size + 1) [.bool false, .slice none 0 0, .slice none 0 0] 33 (by first | rfl | simp))
  have hne_a_res : w.heap.size ≠ w.heap.size + 1 := by omega
  have hne_res_a : w.heap.size + 1 ≠ w.heap.size := by omega
  by_cases hm0 : m = 0
  · subst hm0
    obtain rfl : b = 0 := by rw [← HBV.out, List.eq_nil_of_length_eq_zero HLB.out]; rfl
    have HNO := Lib.hid (low_none HZ.out (okL_no_zero))
    obtain rfl : RS = false := by rw [← HRS.out]; exact HNO.out.1
    obtain rfl : RN = [] := by rw [← HRN.out]; exact HNO.out.2.1
    obtain rfl : RD = [] := by rw [← HRD.out]; exact HNO.out.2.2
    have hk_res_0_0 := K_res_0.out.cell 0 _ rfl
    have hk_res_0_0f := K_res_0.out.froz 0 _ rfl
    have hk_res_1_0 := K_res_0.out.cell 1 _ rfl
    have hk_res_1_0f := K_res_0.out.froz 1 _ rfl
    have hk_res_2_0 := K_res_0.out.cell 2 _ rfl
    have hk_res_2_0f := K_res_0.out.froz 2 _ rfl
    go_wp2
    have hr0 := K_res_0.out.cell 0 _ rfl
    have hr1 := K_res_0.out.cell 1 _ rfl
    have hr2 := K_res_0.out.cell 2 _ rfl
    refine bodyPost_ret (v := .agg #[.bool false, .slice none 0 0, .slice none 0 0]) (by simp [results, Try.results91, go_sem, hr0, hr1, hr2]) rfl ?_
    exact ⟨_, _, rfl, OwnV.nil _ _ _, OwnV.nil _ _ _, .inl rfl, .inl rfl, HB_0.out⟩
  · have HB0 := Lib.hid (show b ≠ 0 by intro e; apply hm0; rw [← HLB.out, ← HTB.out, e, dig_zero]; rfl)
    have hk_a_0_0 := K_a_0.out.cell 0 _ rfl
    have hk_a_1_0 := K_a_0.out.cell 1 _ rfl
    go_wp2_with fail
    have HGC := Lib.hid (natGcd_impl A B n c m d (ds.map fun x : Nat => (x : Int)) (bs.map fun x : Nat => (x : Int)) _ (HA.out.below HB_0.out (Nat.le_refl _)).1 (HB.out.below HB_0.out (Nat.le_refl _)).1 HA.out.max HB.out.max)
    rw [gcdN_yes HIA.out HIB.out, toN_nats, toN_nats, HAV.out, HBV.out] at HGC
    refine (HGC.out).mono ?_
    rintro e w2 ⟨vg, rfl, ho, hb⟩
    obtain ⟨Ag, cg, rfl⟩ := ho.shape
    have HOg := Lib.hid ho
    clear ho
    have K_a_1 := Lib.hid (K_a_0.out.after hb)
    have K_res_1 := Lib.hid (K_res_0.out.after hb)
    have HB_1 := Lib.hid (HB_0.out.trans (hb.mono HB_0.out.size))
    clear hb
    have HG60 := Lib.hid (show (dig (Nat.gcd a b)).length ≤ 60 from dig_len (gcd_lt (dig_len_iff.mp (by rw [HTA.out, HLA.out]; exact hn)) (dig_len_iff.mp (by rw [HTB.out, HLB.out]; exact hm))))
    have HIG := Lib.hid (okI_of_nats (dig_can (Nat.gcd a b)) HG60.out)
    clear hk_a_0_0
    clear hk_a_1_0
    have hk_a_0_1 := K_a_1.out.cell 0 _ rfl
    have hk_a_1_1 := K_a_1.out.cell 1 _ rfl
    go_wp2_with fail
    have HDx := Lib.hid (natDiv_impl A Ag n c _ cg (ds.map fun x : Nat => (x : Int)) ((dig (Nat.gcd a b)).map fun x : Nat => (x : Int)) _ (HA.out.below HB_1.out (Nat.le_refl _)).1 HOg.out.row HA.out.max (by have := HOg.out.arg.max; exact this))
    rw [quoN_yes HIA.out HIG.out, toN_nats, toN_nats, val_dig, HAV.out] at HDx
    refine (HDx.out).mono ?_
    rintro e wx ⟨vx, ux, rfl, ho, ho1, ap0, ap1, hb⟩
    obtain ⟨Ax, cx, rfl⟩ := ho.shape
    obtain ⟨Arx, crx, rfl⟩ := ho1.shape
    have HOx := Lib.hid ho
    have AP_Og_Ox := Lib.hid (OwnV.apart HOg.out ho (Nat.le_refl _))
    have AP_Ox_Og := Lib.hid (OwnV.apart' ho HOg.out (Nat.le_refl _))
    clear ho ho1 ap0 ap1
    have K_a_2 := Lib.hid (K_a_1.out.after hb)
    have K_res_2 := Lib.hid (K_res_1.out.after hb)
    have H_Og_2 := Lib.hid (OwnV.below (w := w2) HOg.out hb)
    have HB_2 := Lib.hid (HB_1.out.trans (hb.mono HB_1.out.size))
    clear hb
    clear hk_a_0_1
    clear hk_a_1_1
    have hk_a_0_2 := K_a_2.out.cell 0 _ rfl
    have hk_a_1_2 := K_a_2.out.cell 1 _ rfl
    go_wp2_with fail
    have HDy := Lib.hid (natDiv_impl B Ag m d _ cg (bs.map fun x : Nat => (x : Int)) ((dig (Nat.gcd a b)).map fun x : Nat => (x : Int)) _ (HB.out.below HB_2.out (Nat.le_refl _)).1 H_Og_2.out.row HB.out.max (by have := H_Og_2.out.arg.max; exact this))
    rw [quoN_yes HIB.out HIG.out, toN_nats, toN_nats, val_dig, HBV.out] at HDy
    refine (HDy.out).mono ?_
    rintro e wy ⟨vy, uy, rfl, ho, ho1, ap0, ap1, hb⟩
    obtain ⟨Ay, cy, rfl⟩ := ho.shape
    obtain ⟨Ary, cry, rfl⟩ := ho1.shape
    have HOy := Lib.hid ho
    have AP_Og_Oy := Lib.hid (OwnV.apart H_Og_2.out ho (Nat.le_refl _))
    have AP_Oy_Og := Lib.hid (OwnV.apart' ho H_Og_2.out (Nat.le_refl _))
    have AP_Ox_Oy := Lib.hid (OwnV.apart HOx.out ho (Nat.le_refl _))
    have AP_Oy_Ox := Lib.hid (OwnV.apart' ho HOx.out (Nat.le_refl _))
    clear ho ho1 ap0 ap1
    have K_a_3 := Lib.hid (K_a_2.out.after hb)
    have K_res_3 := Lib.hid (K_res_2.out.after hb)
    have H_Og_3 := Lib.hid (OwnV.below (w := wx) H_Og_2.out hb)
    have H_Ox_3 := Lib.hid (OwnV.below (w := wx) HOx.out hb)
    have HB_3 := Lib.hid (HB_2.out.trans (hb.mono HB_2.out.size))
    clear hb
    clear hk_a_0_2
    clear hk_a_1_2
    have HLx := Lib.hid (show (nats (dig (a / Nat.gcd a b))).length ≤ 60 by rw [nats_len]; exact dig_len (Nat.lt_of_le_of_lt (Nat.div_le_self _ _) (dig_len_iff.mp (by rw [HTA.out, HLA.out]; exact hn))))
    have hlx := HLx.out
    obtain ⟨Nx, hNx⟩ : ∃ k, (nats (dig (a / Nat.gcd a b))).length = k := ⟨_, rfl⟩
    rw [hNx] at H_Ox_3 hlx AP_Ox_Oy AP_Oy_Ox ⊢
    have HNNx := Lib.hid hNx
    clear hNx
    have HLy := Lib.hid (show (nats (dig (b / Nat.gcd a b))).length ≤ 60 by rw [nats_len]; exact dig_len (Nat.lt_of_le_of_lt (Nat.div_le_self _ _) (dig_len_iff.mp (by rw [HTB.out, HLB.out]; exact hm))))
    have hly := HLy.out
    obtain ⟨Ny, hNy⟩ : ∃ k, (nats (dig (b / Nat.gcd a b))).length = k := ⟨_, rfl⟩
    rw [hNy] at HOy hly AP_Ox_Oy AP_Oy_Ox ⊢
    have HNNy := Lib.hid hNy
    clear hNy
    by_cases h24 : 24 < Nx
    · have HNO := Lib.hid (low_none HZ.out (okL_no_num (by rw [H_Ox_3.out.arg.nlen]; exact h24)))
      obtain rfl : RS = false := by rw [← HRS.out]; exact HNO.out.1
      obtain rfl : RN = [] := by rw [← HRN.out]; exact HNO.out.2.1
      obtain rfl : RD = [] := by rw [← HRD.out]; exact HNO.out.2.2
      have hk_res_0_3 := K_res_3.out.cell 0 _ rfl
      have hk_res_0_3f := K_res_3.out.froz 0 _ rfl
      have hk_res_1_3 := K_res_3.out.cell 1 _ rfl
      have hk_res_1_3f := K_res_3.out.froz 1 _ rfl
      have hk_res_2_3 := K_res_3.out.cell 2 _ rfl
      have hk_res_2_3f := K_res_3.out.froz 2 _ rfl
      go_wp2
      have hr0 := K_res_3.out.cell 0 _ rfl
      have hr1 := K_res_3.out.cell 1 _ rfl
      have hr2 := K_res_3.out.cell 2 _ rfl
      refine bodyPost_ret (v := .agg #[.bool false, .slice none 0 0, .slice none 0 0]) (by simp [results, Try.results91, go_sem, hr0, hr1, hr2]) rfl ?_
      exact ownRR_close HB_3.out (OwnV.nil _ (w.heap.size + 1 + 1) _) (OwnV.nil _ (w.heap.size + 1 + 1) _) (Nat.lt_succ_self _) (Nat.lt_succ_self _) (by omega) (.inl rfl) (.inl rfl)
    · by_cases h25 : 24 < Ny
      · have HNO := Lib.hid (low_none HZ.out (okL_no_den (by rw [HOy.out.arg.nlen]; exact h25)))
        obtain rfl : RS = false := by rw [← HRS.out]; exact HNO.out.1
        obtain rfl : RN = [] := by rw [← HRN.out]; exact HNO.out.2.1
        obtain rfl : RD = [] := by rw [← HRD.out]; exact HNO.out.2.2
        have hk_res_0_3 := K_res_3.out.cell 0 _ rfl
        have hk_res_0_3f := K_res_3.out.froz 0 _ rfl
        have hk_res_1_3 := K_res_3.out.cell 1 _ rfl
        have hk_res_1_3f := K_res_3.out.froz 1 _ rfl
        have hk_res_2_3 := K_res_3.out.cell 2 _ rfl
        have hk_res_2_3f := K_res_3.out.froz 2 _ rfl
        go_wp2
        have hr0 := K_res_3.out.cell 0 _ rfl
        have hr1 := K_res_3.out.cell 1 _ rfl
        have hr2 := K_res_3.out.cell 2 _ rfl
        refine bodyPost_ret (v := .agg #[.bool false, .slice none 0 0, .slice none 0 0]) (by simp [results, Try.results91, go_sem, hr0, hr1, hr2]) rfl ?_
        exact ownRR_close HB_3.out (OwnV.nil _ (w.heap.size + 1 + 1) _) (OwnV.nil _ (w.heap.size + 1 + 1) _) (Nat.lt_succ_self _) (Nat.lt_succ_self _) (by omega) (.inl rfl) (.inl rfl)
      · have HLM := Lib.hid (low_some HZ.out (okL_yes HB0.out (by rw [H_Ox_3.out.arg.nlen]; exact h24) (by rw [HOy.out.arg.nlen]; exact h25)))
        have HMG := Lib.hid (show dig (a / Nat.gcd a b) = RN by rw [← HRN.out]; exact HLM.out.2.1.symm)
        have HDG := Lib.hid (show dig (b / Nat.gcd a b) = RD by rw [← HRD.out]; exact HLM.out.2.2.symm)
        have HSG := Lib.hid (show (s && decide (0 < Nx)) = RS by rw [← HRS.out, HLM.out.1, ← HNNx.out, nats_len])
        rw [HMG.out] at H_Ox_3
        rw [HDG.out] at HOy
        have hk_a_0_3 := K_a_3.out.cell 0 _ rfl
        have hk_a_1_3 := K_a_3.out.cell 1 _ rfl
        have hk_res_0_3 := K_res_3.out.cell 0 _ rfl
        have hk_res_0_3f := K_res_3.out.froz 0 _ rfl
        have hk_res_1_3 := K_res_3.out.cell 1 _ rfl
        have hk_res_1_3f := K_res_3.out.froz 1 _ rfl
        have hk_res_2_3 := K_res_3.out.cell 2 _ rfl
        have hk_res_2_3f := K_res_3.out.froz 2 _ rfl
        go_wp2_with fail
        refine (bigIntWith_any s Ax Nx cx _ (by omega)).mono ?_
        rintro e w9 ⟨rfl, hb⟩
        rw [HSG.out]
        have K_a_4 := Lib.hid (K_a_3.out.after hb)
        have K_res_4 := Lib.hid (K_res_3.out.after hb)
        have H_Og_4 := Lib.hid (OwnV.below (w := wy) H_Og_3.out hb)
        have H_Ox_4 := Lib.hid (OwnV.below (w := wy) H_Ox_3.out hb)
        have H_Oy_4 := Lib.hid (OwnV.below (w := wy) HOy.out hb)
        have HB_4 := Lib.hid (HB_3.out.trans (hb.mono HB_3.out.size))
        clear hb
        clear hk_a_0_3
        clear hk_a_1_3
        clear hk_res_0_3
        clear hk_res_0_3f
        clear hk_res_1_3
        clear hk_res_1_3f
        clear hk_res_2_3
        clear hk_res_2_3f
        have hk_res_0_4 := K_res_4.out.cell 0 _ rfl
        have hk_res_0_4f := K_res_4.out.froz 0 _ rfl
        have hk_res_1_4 := K_res_4.out.cell 1 _ rfl
        have hk_res_1_4f := K_res_4.out.froz 1 _ rfl
        have hk_res_2_4 := K_res_4.out.cell 2 _ rfl
        have hk_res_2_4f := K_res_4.out.froz 2 _ rfl
        go_wp2
        have hr0 := K_res_4.out.cell 0 _ rfl
        have hr1 := K_res_4.out.cell 1 _ rfl
        have hr2 := K_res_4.out.cell 2 _ rfl
        exact bodyPost_ret (v := .agg #[.bool RS, .slice Ax Nx cx, .slice Ay Ny cy]) (by simp [results, Try.results91, go_sem, hr0, hr1, hr2]) rfl (ownRR_close HB_4.out H_Ox_4.out H_Oy_4.out K_res_1.out.lt K_res_2.out.lt (by omega) AP_Ox_Oy.out AP_Oy_Ox.out)
theorem reduced_let (s : Bool) (A : Option Addr) (n c : Nat) (ds : List Nat) (B : Option Addr) (m d : Nat) (bs : List Nat) (z : Int) (b : Nat) (hz : signed s (val ds) = z) (hbv : val bs = b) (w : World) (hA : Arg w A n c (nats ds)) (hB : Arg w B m d (nats bs)) (hds : Canon ds) (hbs : Canon bs) (hn : n ≤ 60) (hm : m ≤ 60) (RS : Bool) (RN RD : List Nat) (hS : loS z b = RS) (hN : loN z b = RN) (hD : loD z b = RD) :
    Calls Try.prog 91 #[.agg #[.bool s, .slice A n c], .slice B m d] w (OwnRR 3 RS (nats RN) (nats RD) w) := by
  subst hS hN hD
  exact reduced_at s A n c ds B m d bs z b hz hbv w hA hB hds hbs hn hm
end Go.Proofs.Ytdilbhkdkppodaa
