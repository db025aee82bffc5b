/- Big integers: BigIntCmp of the model and of the program. Conditions: none. -/
import Derived.Test.YtdilbhkdkppodaaProg
import Derived.Test.YtdilbhkdkppodaaBig
import Derived.Deep.DeepCutAuto
namespace Go.Proofs.Ytdilbhkdkppodaa
open Go.RowKit Nt
set_option linter.unusedVariables false

/-- How two numbers with signs compare. -/
def cmpS (s t : Bool) (a b : Nat) : Int := if s = true ∧ t = false then -1 else if s = false ∧ t = true then 1 else if s = true then sgn b a else sgn a b
/-- What BigIntCmp answers. -/
def cmpB (s t : Bool) (xs ys : List Int) : Int := if okB s xs = true ∧ okB t ys = true then cmpS s t (val (toN xs)) (val (toN ys)) else 0
theorem cmpB_yes {s t : Bool} {xs ys : List Int} (h1 : okB s xs = true) (h2 : okB t ys = true) : cmpB s t xs ys = cmpS s t (val (toN xs)) (val (toN ys)) := if_pos ⟨h1, h2⟩
theorem cmpB_no {s t : Bool} {xs ys : List Int} (h : okB s xs = false ∨ okB t ys = false) : cmpB s t xs ys = 0 := if_neg (by rintro ⟨h1, h2⟩; rcases h with h | h <;> simp_all)
theorem below_al2 {w u : World} {o : Obj} (h : Below w.heap.size w u) : Below w.heap.size w (u.alloc o) := h.alloc h.size o
set_option maxRecDepth 100000 in
set_option maxHeartbeats 4000000 in
theorem bigIntCmp_impl (s t : Bool) (A B : Option Addr) (n c m d : Nat) (xs ys : List Int) (w : World) (hA : VRow w A n (ints xs)) (hB : VRow w B m (ints ys)) (hn : n ≤ maxLen) (hm : m ≤ maxLen) :
    Calls Try.prog 71 #[.agg #[.bool s, .slice A n c], .agg #[.bool t, .slice B m d]] w fun e w' => e = .returned (.int .i64 (cmpB s t xs ys)) ∧ Below w.heap.size w w' := by
  have HA := Lib.hid hA
  have HB := Lib.hid hB
  have HN := Lib.hid hn
  have HM := Lib.hid hm
  have HL := Lib.hid (show xs.length = n by simpa [ints] using hA.1)
  have HL2 := Lib.hid (show ys.length = m by simpa [ints] using hB.1)
  clear hA hB hn hm
  go_enter Try.func71, Try.ntmps71
  have HB_0 := Lib.hid (((Below.refl w.heap.size w).alloc (Nat.le_refl _) (.cells #[.bool s, .slice A n c] 31)).alloc (by simp) (.cells #[.bool t, .slice B m d] 31))
  have K0_0 := Lib.hid ((Held.new_at w (w.heap.size) (.bool s) (.slice A n c) 31 (by first | rfl | simp)).alloc (.cells #[.bool t, .slice B m d] 31))
  have K1_0 := Lib.hid (Held.new_at (w.alloc (.cells #[.bool s, .slice A n c] 31)) (w.heap.size + 1) (.bool t) (.slice B m d) 31 (by first | rfl | simp))
  have hne01 : w.heap.size ≠ w.heap.size + 1 := by omega
  have hne10 : w.heap.size + 1 ≠ w.heap.size := by omega
  go_upto_region 1 with fail
  go_cut [5, 6] (fun p q wx => ∃ b5 b6, p = .pointer (some ⟨b5, 0, none⟩) ∧ q = .pointer (some ⟨b6, 0, none⟩) ∧ Held wx b5 (.slice A n c) (.bool s) ∧ Held wx b6 (.slice B m d) (.bool t) ∧ Below w.heap.size w wx)
  case first =>
    go_region_held3 (fun w' => w'.cell? ⟨w.heap.size, 0, none⟩ = some (.bool s) ∧ w'.cell? ⟨w.heap.size, 1, none⟩ = some (.slice A n c) ∧ w'.cell? ⟨w.heap.size + 1, 0, none⟩ = some (.bool t) ∧ w'.cell? ⟨w.heap.size + 1, 1, none⟩ = some (.slice B m d)) (simp [go_sem])
      (first
        | (go_at_call_of 85 (Value.agg #[Value.bool s, Value.slice A n c]); refine (signedOf_at s A n c _).mono ?_; rintro e w1 ⟨rfl, rfl⟩)
        | (go_at_call_of 85 (Value.agg #[Value.bool t, Value.slice B m d]); refine (signedOf_at t B m d _).mono ?_; rintro e w1 ⟨rfl, rfl⟩))
    all_goals go_wp2_with fail
    all_goals go_meet
    all_goals refine ⟨_, _, rfl, rfl, ?_, ?_, ?_⟩
    all_goals first | (refine Held.mk ?_ ?_ ?_ ?_ ?_ <;> first | (simp [go_sem]; done) | (simp; omega)) | (refine Below.drew ?_; (iterate 8 apply below_al2); exact Below.refl _ _)
  obtain ⟨b5, b6, rfl, rfl, h5, h6, hbw⟩ := hcut
  clear K0_0 K1_0 HB_0
  have K0_0 := Lib.hid h5
  have K1_0 := Lib.hid h6
  have HB_0 := Lib.hid hbw
  clear h5 h6 hbw
  have hk0c0_0 := K0_0.out.c0
  have hk0c1_0 := K0_0.out.c1
  go_wp2_with fail
  refine (isValid_any s A n c xs _ (HA.out.below HB_0.out (Nat.le_refl _)) HN.out).mono ?_
  rintro e w0 ⟨rfl, hb⟩
  have K0_1 := Lib.hid (K0_0.out.after hb)
  have K1_1 := Lib.hid (K1_0.out.after hb)
  have HB_1 := Lib.hid (HB_0.out.trans (hb.mono HB_0.out.size))
  clear hb
  by_cases hok : okB s xs = true
  · rw [hok]
    have hk1c0_1 := K1_1.out.c0
    have hk1c1_1 := K1_1.out.c1
    go_wp2_with fail
    refine (isValid_any t B m d ys _ (HB.out.below HB_1.out (Nat.le_refl _)) HM.out).mono ?_
    rintro e w01 ⟨rfl, hb⟩
    have K0_2 := Lib.hid (K0_1.out.after hb)
    have K1_2 := Lib.hid (K1_1.out.after hb)
    have HB_2 := Lib.hid (HB_1.out.trans (hb.mono HB_1.out.size))
    clear hb
    clear hk1c0_1
    clear hk1c1_1
    by_cases hok2 : okB t ys = true
    · rw [hok2]
      obtain ⟨hex, hcanx, hl60x⟩ := okI_nats (okB_ok hok)
      have hlenx : n ≤ 60 := by have h1 := HL.out; rw [toN_len] at hl60x; omega
      have HAn := Lib.hid (hex ▸ HA.out)
      have HCx := Lib.hid hcanx
      clear hex hcanx hl60x
      obtain ⟨hey, hcany, hl60y⟩ := okI_nats (okB_ok hok2)
      have hleny : m ≤ 60 := by have h1 := HL2.out; rw [toN_len] at hl60y; omega
      have HBn := Lib.hid (hey ▸ HB.out)
      have HCy := Lib.hid hcany
      clear hey hcany hl60y
      have HCB := Lib.hid (cmpB_yes hok hok2)
      have HOK := Lib.hid hok
      have HOK2 := Lib.hid hok2
      clear hok hok2
      have HCA := Lib.hid (show cmpI xs ys = sgn (val (toN xs)) (val (toN ys)) from if_pos ⟨okB_ok HOK.out, okB_ok HOK2.out⟩)
      have HCC := Lib.hid (show cmpI ys xs = sgn (val (toN ys)) (val (toN xs)) from if_pos ⟨okB_ok HOK2.out, okB_ok HOK.out⟩)
      have hk0c0_2 := K0_2.out.c0
      have hk0c1_2 := K0_2.out.c1
      have hk1c0_2 := K1_2.out.c0
      have hk1c1_2 := K1_2.out.c1
      cases s <;> cases t
      · go_wp2_with fail
        refine (magCmp_any A B n c m d xs ys _ (HA.out.below HB_2.out (Nat.le_refl _)) (HB.out.below HB_2.out (Nat.le_refl _)) HN.out HM.out).mono ?_
        rintro e w02 ⟨rfl, hb⟩
        have K0_3 := Lib.hid (K0_2.out.after hb)
        have K1_3 := Lib.hid (K1_2.out.after hb)
        have HB_3 := Lib.hid (HB_2.out.trans (hb.mono HB_2.out.size))
        clear hb
        clear hk0c0_2
        clear hk0c1_2
        clear hk1c0_2
        clear hk1c1_2
        rw [HCA.out]
        have HC := Lib.hid (show cmpB false false xs ys = sgn (val (toN xs)) (val (toN ys)) from HCB.out)
        rw [← HC.out]
        obtain ⟨q, hq⟩ : ∃ q, cmpB false false xs ys = q := ⟨_, rfl⟩
        have HQ := Lib.hid hq
        rw [hq]
        clear hq
        go_wp2
        go_ret
        exact ⟨by rw [HQ.out]; rfl, HB_3.out⟩
      · go_wp2
        go_ret
        exact ⟨by rw [HCB.out]; rfl, HB_2.out⟩
      · go_wp2
        go_ret
        exact ⟨by rw [HCB.out]; rfl, HB_2.out⟩
      · go_wp2_with fail
        refine (magCmp_any B A m d n c ys xs _ (HB.out.below HB_2.out (Nat.le_refl _)) (HA.out.below HB_2.out (Nat.le_refl _)) HM.out HN.out).mono ?_
        rintro e w02 ⟨rfl, hb⟩
        have K0_3 := Lib.hid (K0_2.out.after hb)
        have K1_3 := Lib.hid (K1_2.out.after hb)
        have HB_3 := Lib.hid (HB_2.out.trans (hb.mono HB_2.out.size))
        clear hb
        clear hk0c0_2
        clear hk0c1_2
        clear hk1c0_2
        clear hk1c1_2
        rw [HCC.out]
        have HC := Lib.hid (show cmpB true true xs ys = sgn (val (toN ys)) (val (toN xs)) from HCB.out)
        rw [← HC.out]
        obtain ⟨q, hq⟩ : ∃ q, cmpB true true xs ys = q := ⟨_, rfl⟩
        have HQ := Lib.hid hq
        rw [hq]
        clear hq
        go_wp2
        go_ret
        exact ⟨by rw [HQ.out]; rfl, HB_3.out⟩
    · rw [Bool.not_eq_true] at hok2
      rw [hok2]
      have HC0 := Lib.hid (cmpB_no (s := s) (t := t) (xs := xs) (ys := ys) (.inr hok2))
      clear hok2
      go_wp2
      go_ret
      exact ⟨by rw [HC0.out]; rfl, HB_2.out⟩
  · rw [Bool.not_eq_true] at hok
    rw [hok]
    have HC0 := Lib.hid (cmpB_no (s := s) (t := t) (xs := xs) (ys := ys) (.inl hok))
    clear hok
    go_wp2
    go_ret
    exact ⟨by rw [HC0.out]; rfl, HB_1.out⟩
end Go.Proofs.Ytdilbhkdkppodaa
