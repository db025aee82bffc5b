/- Joined: XRat1 XRat2 XRat3a XRat3b XRat3c. Conditions: none. -/
import Derived.Test.YtbikkbamcleinaaDoorProg
import Derived.Test.YtbikkbamcleinaaDoorB4
import Derived.Deep.DeepCutAuto
namespace Go.Proofs.YtbikkbamcleinaaDoor
open Go.RowKit Nt
set_option linter.unusedVariables false

set_option maxRecDepth 100000 in
set_option maxHeartbeats 4000000 in
theorem l04One_any (A : Option Addr) (n c : Nat) (ds : List Nat) (w : World) (hA : VRow w A n (nats ds)) (hn : n ≤ maxLen) :
    Calls Tryd.prog 22 #[.slice A n c] w fun e w' => e = .returned (.bool (isOne ds)) ∧ w' = w := by
  have hl : ds.length = n := by simpa [nats_len] using hA.1
  unfold maxLen at hn
  by_cases h1 : n = 1
  · subst h1
    obtain ⟨x, rfl⟩ := List.length_eq_one_iff.mp hl
    obtain ⟨g, o, rfl, hg, hc⟩ := hA.at_ (show 0 < 1 by omega)
    rw [nats_get] at hc
    simp at hc
    have HI := Lib.hid (show isOne [x] = decide (x = 1) by unfold isOne; simp)
    clear hl hA
    by_cases hx : x = 1
    · subst hx
      go_enter Tryd.func22, Tryd.ntmps22
      go_wp2
      go_ret
      exact ⟨by rw [HI.out]; rfl, rfl⟩
    · have hx2 : ¬ (x : Int) = 1 := by omega
      go_enter Tryd.func22, Tryd.ntmps22
      go_wp2
      go_ret
      exact ⟨by rw [HI.out]; simp [hx, hx2], rfl⟩
  · have HI := Lib.hid (show isOne ds = false by unfold isOne; simp; intro e; rw [e] at hl; simp at hl; omega)
    clear hl hA
    go_enter Tryd.func22, Tryd.ntmps22
    go_wp2
    go_ret
    exact ⟨by rw [HI.out]; simp <;> omega, rfl⟩
set_option maxRecDepth 100000 in
set_option maxHeartbeats 4000000 in
theorem isOneRow_any (A : Option Addr) (n c : Nat) (ds : List Nat) (w : World) (hA : VRow w A n (nats ds)) (hn : n ≤ maxLen) :
    Calls Tryd.prog 27 #[.slice A n c] w fun e w' => e = .returned (.bool (isOne ds)) ∧ w' = w := by
  have hl : ds.length = n := by simpa [nats_len] using hA.1
  unfold maxLen at hn
  by_cases h1 : n = 1
  · subst h1
    obtain ⟨x, rfl⟩ := List.length_eq_one_iff.mp hl
    obtain ⟨g, o, rfl, hg, hc⟩ := hA.at_ (show 0 < 1 by omega)
    rw [nats_get] at hc
    simp at hc
    have HI := Lib.hid (show isOne [x] = decide (x = 1) by unfold isOne; simp)
    clear hl hA
    by_cases hx : x = 1
    · subst hx
      go_enter Tryd.func27, Tryd.ntmps27
      go_wp2
      go_ret
      exact ⟨by rw [HI.out]; rfl, rfl⟩
    · have hx2 : ¬ (x : Int) = 1 := by omega
      go_enter Tryd.func27, Tryd.ntmps27
      go_wp2
      go_ret
      exact ⟨by rw [HI.out]; simp [hx, hx2], rfl⟩
  · have HI := Lib.hid (show isOne ds = false by unfold isOne; simp; intro e; rw [e] at hl; simp at hl; omega)
    clear hl hA
    go_enter Tryd.func27, Tryd.ntmps27
    go_wp2
    go_ret
    exact ⟨by rw [HI.out]; simp <;> omega, rfl⟩
set_option maxRecDepth 100000 in
set_option maxHeartbeats 4000000 in
theorem ratOk_spec (s : Bool) (A : Option Addr) (n c : Nat) (xs : List Int) (B : Option Addr) (m d : Nat) (ys : List Int) (w : World) (hA : Arg w A n c (ints xs)) (hB : Arg w B m d (ints ys)) :
    Calls Tryd.prog 21 #[.agg #[.bool s, .slice A n c, .slice B m d]] w fun e w' => e = .returned (.bool (okR s xs ys)) ∧ Below w.heap.size w w' := by
  have HA := Lib.hid hA
  have HB := Lib.hid hB
  clear hA hB
  have hn := HA.out.max
  have hm := HB.out.max
  unfold maxLen at hn hm
  have HLX := Lib.hid HA.out.ilen
  have HLY := Lib.hid HB.out.ilen
  go_enter Tryd.func21, Tryd.ntmps21
  have HB_0 := Lib.hid ((Below.refl w.heap.size w).alloc (Nat.le_refl _) (.cells #[.bool s, .slice A n c, .slice B m d] 40))
  have K_a_0 := Lib.hid (HeldL.new_at w (w.heap.size) [.bool s, .slice A n c, .slice B m d] 40 (by first | rfl | simp))
  go_wp2_with fail
  refine (bigIntOk_spec s A n c xs _ (HA.out.below HB_0.out (Nat.le_refl _)).1 HA.out.max).mono ?_
  rintro e w1 ⟨rfl, hb⟩
  have K_a_1 := Lib.hid (K_a_0.out.after hb)
  have HB_1 := Lib.hid (HB_0.out.trans (hb.mono HB_0.out.size))
  clear hb
  by_cases h1 : okB s xs = true
  · rw [h1]
    have hk_a_0_1 := K_a_1.out.cell 0 _ rfl
    have hk_a_1_1 := K_a_1.out.cell 1 _ rfl
    have hk_a_2_1 := K_a_1.out.cell 2 _ rfl
    go_wp2_with fail
    refine (natOk_spec B m d ys _ (HB.out.below HB_1.out (Nat.le_refl _)).1 HB.out.max).mono ?_
    rintro e w2 ⟨rfl, hb⟩
    have K_a_2 := Lib.hid (K_a_1.out.after hb)
    have HB_2 := Lib.hid (HB_1.out.trans (hb.mono HB_1.out.size))
    clear hb
    clear hk_a_0_1
    clear hk_a_1_1
    clear hk_a_2_1
    by_cases h2 : okI ys = true
    · rw [h2]
      by_cases h3 : m = 0 ∨ 24 < m ∨ 24 < n
      · have HO0 := Lib.hid (show okR s xs ys = false by unfold okR; rw [HLX.out, HLY.out]; simp; intros; omega)
        rcases h3 with h3 | h3 | h3
        · have hk_a_0_2 := K_a_2.out.cell 0 _ rfl
          have hk_a_1_2 := K_a_2.out.cell 1 _ rfl
          have hk_a_2_2 := K_a_2.out.cell 2 _ rfl
          subst h3
          go_wp2
          go_ret
          exact ⟨by rw [HO0.out]; rfl, HB_2.out⟩
        · have hk_a_0_2 := K_a_2.out.cell 0 _ rfl
          have hk_a_1_2 := K_a_2.out.cell 1 _ rfl
          have hk_a_2_2 := K_a_2.out.cell 2 _ rfl
          go_wp2
          go_ret
          exact ⟨by rw [HO0.out]; rfl, HB_2.out⟩
        · have hk_a_0_2 := K_a_2.out.cell 0 _ rfl
          have hk_a_1_2 := K_a_2.out.cell 1 _ rfl
          have hk_a_2_2 := K_a_2.out.cell 2 _ rfl
          by_cases h4 : m = 0
          · subst h4
            go_wp2
            go_ret
            exact ⟨by rw [HO0.out]; rfl, HB_2.out⟩
          · by_cases h5 : 24 < m
            · go_wp2
              go_ret
              exact ⟨by rw [HO0.out]; rfl, HB_2.out⟩
            · go_wp2
              go_ret
              exact ⟨by rw [HO0.out]; rfl, HB_2.out⟩
      · obtain ⟨hex, hcx, hlx⟩ := okI_nats (okB_ok h1)
        obtain ⟨hey, hcy, hly⟩ := okI_nats h2
        rw [toN_len, HA.out.ilen] at hlx
        rw [toN_len, HB.out.ilen] at hly
        have HAn := Lib.hid (hex ▸ HA.out)
        have HBn := Lib.hid (hey ▸ HB.out)
        have HCx := Lib.hid hcx
        have HCy := Lib.hid hcy
        have H1 := Lib.hid h1
        have H2 := Lib.hid h2
        clear hex hey hcx hcy h1 h2
        have hm0 : ¬ m = 0 := by omega
        have hm1 : ¬ 24 < m := by omega
        have hn1 : ¬ 24 < n := by omega
        have i0 : ((m : Int) == 0) = false := by simp; omega
        have i1 : decide ((24 : Int) < (m : Int)) = false := by simp; omega
        have i2 : decide ((24 : Int) < (n : Int)) = false := by simp; omega
        have hk_a_0_2 := K_a_2.out.cell 0 _ rfl
        have hk_a_1_2 := K_a_2.out.cell 1 _ rfl
        have hk_a_2_2 := K_a_2.out.cell 2 _ rfl
        go_wp2_with fail
        refine (l02Gcd_any A B n c m d (toN xs) (toN ys) _ (HAn.out.below HB_2.out (Nat.le_refl _)).1 (HBn.out.below HB_2.out (Nat.le_refl _)).1 HCx.out HCy.out HA.out.2.2.2 HB.out.2.2.2 (by omega) (by omega)).mono ?_
        rintro e w3 ⟨vg, rfl, ho, hb⟩
        obtain ⟨Ag, cg, rfl⟩ := ho.shape
        have HOg := Lib.hid ho
        clear ho
        have K_a_3 := Lib.hid (K_a_2.out.after hb)
        have HB_3 := Lib.hid (HB_2.out.trans (hb.mono HB_2.out.size))
        clear hb
        clear hk_a_0_2
        clear hk_a_1_2
        clear hk_a_2_2
        go_wp2_with fail
        refine (l04One_any Ag _ cg _ _ HOg.out.row (by have := HOg.out.arg.max; exact this)).mono ?_
        rintro e w4 ⟨rfl, rfl⟩
        rw [isOne_dig]
        have HO1 := Lib.hid (show okR s xs ys = decide (Nat.gcd (val (toN xs)) (val (toN ys)) = 1) by unfold okR; rw [H1.out, H2.out]; have e1 := HA.out.ilen; have e2 := HB.out.ilen; simp; intro _; omega)
        obtain ⟨z, hz⟩ : ∃ z, decide (Nat.gcd (val (toN xs)) (val (toN ys)) = 1) = z := ⟨_, rfl⟩
        rw [hz] at HO1 ⊢
        clear hz
        go_wp2
        go_ret
        exact ⟨by rw [HO1.out]; rfl, HB_3.out⟩
    · rw [Bool.not_eq_true] at h2
      rw [h2]
      have HO0 := Lib.hid (show okR s xs ys = false by unfold okR; simp [h2])
      have hk_a_0_2 := K_a_2.out.cell 0 _ rfl
      have hk_a_1_2 := K_a_2.out.cell 1 _ rfl
      have hk_a_2_2 := K_a_2.out.cell 2 _ rfl
      go_wp2
      go_ret
      exact ⟨by rw [HO0.out]; rfl, HB_2.out⟩
  · rw [Bool.not_eq_true] at h1
    rw [h1]
    have HO0 := Lib.hid (show okR s xs ys = false by unfold okR; simp [h1])
    have hk_a_0_1 := K_a_1.out.cell 0 _ rfl
    have hk_a_1_1 := K_a_1.out.cell 1 _ rfl
    have hk_a_2_1 := K_a_1.out.cell 2 _ rfl
    go_wp2
    go_ret
    exact ⟨by rw [HO0.out]; rfl, HB_1.out⟩
set_option maxRecDepth 100000 in
set_option maxHeartbeats 4000000 in
theorem isValidR_any (s : Bool) (A : Option Addr) (n c : Nat) (xs : List Int) (B : Option Addr) (m d : Nat) (ys : List Int) (w : World) (hA : Arg w A n c (ints xs)) (hB : Arg w B m d (ints ys)) :
    Calls Tryd.prog 26 #[.agg #[.bool s, .slice A n c, .slice B m d]] w fun e w' => e = .returned (.bool (okR s xs ys)) ∧ Below w.heap.size w w' := by
  have HA := Lib.hid hA
  have HB := Lib.hid hB
  clear hA hB
  have hn := HA.out.max
  have hm := HB.out.max
  unfold maxLen at hn hm
  have HLX := Lib.hid HA.out.ilen
  have HLY := Lib.hid HB.out.ilen
  go_enter Tryd.func26, Tryd.ntmps26
  have HB_0 := Lib.hid ((Below.refl w.heap.size w).alloc (Nat.le_refl _) (.cells #[.bool s, .slice A n c, .slice B m d] 40))
  have K_a_0 := Lib.hid (HeldL.new_at w (w.heap.size) [.bool s, .slice A n c, .slice B m d] 40 (by first | rfl | simp))
  by_cases h3 : 24 < n ∨ 24 < m
  · have HO0 := Lib.hid (show okR s xs ys = false by unfold okR; rw [HLX.out, HLY.out]; simp; intros; omega)
    by_cases h4 : 24 < n
    · go_wp2
      go_ret
      exact ⟨by rw [HO0.out]; rfl, HB_0.out⟩
    · go_wp2
      go_ret
      exact ⟨by rw [HO0.out]; rfl, HB_0.out⟩
  · have hm1 : ¬ 24 < m := by omega
    have hn1 : ¬ 24 < n := by omega
    go_wp2_with fail
    refine (bigIntOk_impl s A n c xs _ (HA.out.below HB_0.out (Nat.le_refl _)).1 HA.out.max).mono ?_
    rintro e w1 ⟨rfl, hb⟩
    have K_a_1 := Lib.hid (K_a_0.out.after hb)
    have HB_1 := Lib.hid (HB_0.out.trans (hb.mono HB_0.out.size))
    clear hb
    by_cases h1 : okB s xs = true
    · rw [h1]
      have hk_a_0_1 := K_a_1.out.cell 0 _ rfl
      have hk_a_1_1 := K_a_1.out.cell 1 _ rfl
      have hk_a_2_1 := K_a_1.out.cell 2 _ rfl
      go_wp2_with fail
      refine (natOk_impl B m d ys _ (HB.out.below HB_1.out (Nat.le_refl _)).1 HB.out.max).mono ?_
      rintro e w2 ⟨rfl, hb⟩
      have K_a_2 := Lib.hid (K_a_1.out.after hb)
      have HB_2 := Lib.hid (HB_1.out.trans (hb.mono HB_1.out.size))
      clear hb
      clear hk_a_0_1
      clear hk_a_1_1
      clear hk_a_2_1
      by_cases h2 : okI ys = true
      · rw [h2]
        by_cases h3 : m = 0
        · subst h3
          have HO0 := Lib.hid (show okR s xs ys = false by unfold okR; rw [HLX.out, HLY.out]; simp)
          have hk_a_0_2 := K_a_2.out.cell 0 _ rfl
          have hk_a_1_2 := K_a_2.out.cell 1 _ rfl
          have hk_a_2_2 := K_a_2.out.cell 2 _ rfl
          go_wp2
          go_ret
          exact ⟨by rw [HO0.out]; rfl, HB_2.out⟩
        · obtain ⟨hex, hcx, hlx⟩ := okI_nats (okB_ok h1)
          obtain ⟨hey, hcy, hly⟩ := okI_nats h2
          rw [toN_len, HA.out.ilen] at hlx
          rw [toN_len, HB.out.ilen] at hly
          have HAn := Lib.hid (hex ▸ HA.out)
          have HBn := Lib.hid (hey ▸ HB.out)
          have HCx := Lib.hid hcx
          have HCy := Lib.hid hcy
          have H1 := Lib.hid h1
          have H2 := Lib.hid h2
          clear hex hey hcx hcy h1 h2
          have hm0 : 0 < m := by omega
          have HG := Lib.hid (gcdN_yes (okB_ok H1.out) H2.out)
          have hk_a_0_2 := K_a_2.out.cell 0 _ rfl
          have hk_a_1_2 := K_a_2.out.cell 1 _ rfl
          have hk_a_2_2 := K_a_2.out.cell 2 _ rfl
          go_wp2_with fail
          refine (natGcd_impl A B n c m d xs ys _ (HA.out.below HB_2.out (Nat.le_refl _)).1 (HB.out.below HB_2.out (Nat.le_refl _)).1 HA.out.max HB.out.max).mono ?_
          rintro e w3 ⟨vg, rfl, ho, hb⟩
          obtain ⟨Ag, cg, rfl⟩ := ho.shape
          have HOg := Lib.hid ho
          clear ho
          have K_a_3 := Lib.hid (K_a_2.out.after hb)
          have HB_3 := Lib.hid (HB_2.out.trans (hb.mono HB_2.out.size))
          clear hb
          clear hk_a_0_2
          clear hk_a_1_2
          clear hk_a_2_2
          go_wp2_with fail
          refine (isOneRow_any Ag _ cg _ _ HOg.out.row (by have := HOg.out.arg.max; exact this)).mono ?_
          rintro e w4 ⟨rfl, rfl⟩
          rw [HG.out, isOne_dig]
          have HO1 := Lib.hid (show okR s xs ys = decide (Nat.gcd (val (toN xs)) (val (toN ys)) = 1) by unfold okR; rw [H1.out, H2.out]; have e1 := HA.out.ilen; have e2 := HB.out.ilen; simp; intro _; omega)
          obtain ⟨z, hz⟩ : ∃ z, decide (Nat.gcd (val (toN xs)) (val (toN ys)) = 1) = z := ⟨_, rfl⟩
          rw [hz] at HO1 ⊢
          clear hz
          go_wp2
          go_ret
          exact ⟨by rw [HO1.out]; rfl, HB_3.out⟩
      · rw [Bool.not_eq_true] at h2
        rw [h2]
        have HO0 := Lib.hid (show okR s xs ys = false by unfold okR; simp [h2])
        have hk_a_0_2 := K_a_2.out.cell 0 _ rfl
        have hk_a_1_2 := K_a_2.out.cell 1 _ rfl
        have hk_a_2_2 := K_a_2.out.cell 2 _ rfl
        go_wp2
        go_ret
        exact ⟨by rw [HO0.out]; rfl, HB_2.out⟩
    · rw [Bool.not_eq_true] at h1
      rw [h1]
      have HO0 := Lib.hid (show okR s xs ys = false by unfold okR; simp [h1])
      have hk_a_0_1 := K_a_1.out.cell 0 _ rfl
      have hk_a_1_1 := K_a_1.out.cell 1 _ rfl
      have hk_a_2_1 := K_a_1.out.cell 2 _ rfl
      go_wp2
      go_ret
      exact ⟨by rw [HO0.out]; rfl, HB_1.out⟩
end Go.Proofs.YtbikkbamcleinaaDoor
namespace Go.Proofs.YtbikkbamcleinaaDoor
open Go.RowKit Nt
set_option linter.unusedVariables false

end Go.Proofs.YtbikkbamcleinaaDoor
namespace Go.Proofs.YtbikkbamcleinaaDoor
open Go.RowKit Nt
set_option linter.unusedVariables false

end Go.Proofs.YtbikkbamcleinaaDoor
namespace Go.Proofs.YtbikkbamcleinaaDoor
open Go.RowKit Nt
set_option linter.unusedVariables false

theorem cmp_small {a b : Int} (ha : a.natAbs < 1000000000 ^ 60) (hb : b.natAbs < 1000000000 ^ 60) : cmpS (sgZ a) (sgZ b) (val (magZ a)) (val (magZ b)) = cmpZ a b := by
  rw [sgZ_small ha, sgZ_small hb, magZ_small ha, magZ_small hb, val_dig, val_dig]
  exact cmpS_cmpZ
/-- What RatCmp answers. -/
def cmpR (s : Bool) (xs ys : List Int) (t : Bool) (us vs : List Int) : Int := if okR s xs ys = true ∧ okR t us vs = true then cmpZ (zOf s xs * (val (toN vs) : Int)) (zOf t us * (val (toN ys) : Int)) else 0
theorem cmpR_yes {s : Bool} {xs ys : List Int} {t : Bool} {us vs : List Int} (h1 : okR s xs ys = true) (h2 : okR t us vs = true) : cmpR s xs ys t us vs = cmpZ (zOf s xs * (val (toN vs) : Int)) (zOf t us * (val (toN ys) : Int)) := if_pos ⟨h1, h2⟩
theorem cmpR_no {s : Bool} {xs ys : List Int} {t : Bool} {us vs : List Int} (h : okR s xs ys = false ∨ okR t us vs = false) : cmpR s xs ys t us vs = 0 := if_neg (by rintro ⟨h1, h2⟩; rcases h with h | h <;> simp_all)
/-- What RatSign answers. -/
def sgnR (s : Bool) (xs ys : List Int) : Int := if okR s xs ys = true then cmpZ (zOf s xs) 0 else 0
theorem cmpZ_range (a b : Int) : -1 ≤ cmpZ a b ∧ cmpZ a b ≤ 1 := by unfold cmpZ; (repeat' split) <;> omega
end Go.Proofs.YtbikkbamcleinaaDoor
namespace Go.Proofs.YtbikkbamcleinaaDoor
open Go.RowKit Nt
set_option linter.unusedVariables false

theorem sgnR_nil {s : Bool} {xs ys : List Int} (h : xs.length = 0) : sgnR s xs ys = 0 := by
  unfold sgnR
  rw [zOf, List.eq_nil_of_length_eq_zero h]
  have e : signed s (val (toN [])) = 0 := by cases s <;> rfl
  rw [e]
  split <;> rfl
theorem zOf_pos {xs ys : List Int} {s : Bool} (h : okR s xs ys = true) (hl : 0 < xs.length) : 0 < val (toN xs) := val_pos (okI_nats (okB_ok (okR_parts h).1)).2.1 (by rw [toN_len]; exact hl)
theorem sgnR_true {xs ys : List Int} (h : okR true xs ys = true) (hl : 0 < xs.length) : sgnR true xs ys = -1 := by
  have h1 := zOf_pos h hl
  have h2 : zOf true xs < 0 := by simp [zOf, signed]; omega
  unfold sgnR cmpZ
  rw [if_pos h, if_pos h2]
theorem sgnR_false {xs ys : List Int} (h : okR false xs ys = true) (hl : 0 < xs.length) : sgnR false xs ys = 1 := by
  have h1 := zOf_pos h hl
  have h2 : 0 < zOf false xs := by simp [zOf, signed]; omega
  unfold sgnR cmpZ
  rw [if_pos h, if_neg (by omega), if_neg (by omega)]
theorem sgnR_no {s : Bool} {xs ys : List Int} (h : okR s xs ys = false) : sgnR s xs ys = 0 := by unfold sgnR; rw [h]; rfl
end Go.Proofs.YtbikkbamcleinaaDoor
