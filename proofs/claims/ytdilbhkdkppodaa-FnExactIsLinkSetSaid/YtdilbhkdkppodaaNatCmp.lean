/- Contracts of l02Cmp and NatCmp of the model, of cmp.Compare at int and of NatCmp of the program. Conditions: none. -/
import Derived.Test.YtdilbhkdkppodaaProg
import Derived.Test.YtdilbhkdkppodaaNatOk
namespace Go.Proofs.Ytdilbhkdkppodaa
open Go.RowKit Nt
set_option linter.unusedVariables false

theorem sgn_lt {a b : Nat} (h : a < b) : sgn a b = -1 := by rw [sgn, if_pos h]
theorem sgn_gt {a b : Nat} (h : b < a) : sgn a b = 1 := by rw [sgn, if_neg (by omega), if_neg (by omega)]
theorem sgn_eq {a b : Nat} (h : a = b) : sgn a b = 0 := by rw [sgn, if_neg (by omega), if_pos h]
/-- What NatCmp answers. -/
def cmpI (xs ys : List Int) : Int := if okI xs = true ∧ okI ys = true then sgn (val (toN xs)) (val (toN ys)) else 0

set_option maxRecDepth 100000 in
set_option maxHeartbeats 1000000 in
theorem l02Cmp_any (A B : Option Addr) (n c m d : Nat) (ds es : List Nat) (w : World) (hA : VRow w A n (nats ds)) (hB : VRow w B m (nats es)) (hds : Canon ds) (hes : Canon es) (hn : n ≤ maxLen) (hm : m ≤ maxLen) :
    Calls Try.prog 79 #[.slice A n c, .slice B m d] w fun e w' => e = .returned (.int .i64 (sgn (val ds) (val es))) ∧ Below w.heap.size w w' := by
  unfold maxLen at hn hm
  have HL := Lib.hid (show ds.length = n by simpa [nats_len] using hA.1)
  have HM := Lib.hid (show es.length = m by simpa [nats_len] using hB.1)
  by_cases hlt : n < m
  · rw [sgn_lt (val_lt_len hds.1 hes (by have := HL.out; have := HM.out; omega))]
    go_enter Try.func79, Try.ntmps79
    go_wp2
    go_ret
    exact ⟨rfl, Below.refl _ _⟩
  by_cases hgt : m < n
  · rw [sgn_gt (val_lt_len hes.1 hds (by have := HL.out; have := HM.out; omega))]
    go_enter Try.func79, Try.ntmps79
    go_wp2
    go_ret
    exact ⟨rfl, Below.refl _ _⟩
  obtain rfl : n = m := by omega
  have HD := Lib.hid hds
  have HE := Lib.hid hes
  clear hds hes
  go_enter Try.func79, Try.ntmps79
  go_wp2
  go_loopw [5] (fun i wr => ∃ k q : Nat, k ≤ n ∧ i = .int .i64 ((k : Int) - 1) ∧ wr = w.drewN q ∧ ds.drop k = es.drop k) (fun i _ => (intOf i + 1).toNat)
  case atStart => exact ⟨n, 0, Nat.le_refl _, by go_num, rfl, by rw [List.drop_of_length_le (by have := HL.out; omega), List.drop_of_length_le (by have := HM.out; omega)]⟩
  case round =>
    obtain ⟨k, q, hk, rfl, rfl, hdr⟩ := hrel
    have HDR := Lib.hid hdr
    clear hdr
    by_cases h0 : k = 0
    · subst h0
      go_wp2
      go_ret
      have e : ds = es := by simpa using HDR.out
      rw [sgn_eq (by rw [e])]
      exact ⟨rfl, below_drewN (Below.refl _ _) _⟩
    · obtain ⟨i, rfl⟩ : ∃ i, k = i + 1 := ⟨k - 1, by omega⟩
      have hwi : ((i + 1 : Nat) : Int) - 1 = (i : Int) := by omega
      rw [hwi]
      clear hwi
      obtain ⟨g, o, rfl, hg, hc⟩ := hA.at_ (show i < n by omega)
      obtain ⟨g', o', rfl, hg', hc'⟩ := hB.at_ (show i < n by omega)
      rw [nats_get] at hc hc'
      have hix : i < ds.length := by have := HL.out; omega
      have hiy : i < es.length := by have := HM.out; omega
      obtain ⟨x, hx⟩ : ∃ x, ds[i] = x := ⟨_, rfl⟩
      obtain ⟨y, hy⟩ : ∃ y, es[i] = y := ⟨_, rfl⟩
      rw [hx] at hc
      rw [hy] at hc'
      have HX := Lib.hid hx
      have HY := Lib.hid hy
      clear hx hy
      by_cases h1 : x < y
      · go_wp2
        go_quiet (fail)
        go_wp2
        go_ret
        rw [sgn_lt (val_lt_at HD.out.1 i hix hiy HDR.out (by rw [HX.out, HY.out]; exact h1))]
        exact ⟨rfl, below_drewN (below_drewN (Below.refl _ _) _) _⟩
      by_cases h2 : y < x
      · go_wp2
        go_quiet (fail)
        go_wp2
        go_quiet (fail)
        go_wp2
        go_ret
        rw [sgn_gt (val_lt_at HE.out.1 i hiy hix HDR.out.symm (by rw [HX.out, HY.out]; exact h2))]
        exact ⟨rfl, below_drewN (below_drewN (below_drewN (Below.refl _ _) _) _) _⟩
      obtain rfl : x = y := by omega
      go_wp2
      go_quiet (fail)
      go_wp2
      go_quiet (fail)
      go_wp2
      exact ⟨⟨i, _, by omega, by go_num, rfl, drop_eq_succ i hix hiy HDR.out (by rw [HX.out, HY.out])⟩, by simp [intOf]⟩
theorem isNaN_any (x : Int) (w : World) :
    Calls Try.prog 95 #[.int .i64 x] w fun e w' => e = .returned (.bool false) ∧ w' = w := by
  go_enter Try.func95, Try.ntmps95
  go_wp2
  go_ret
  exact ⟨rfl, rfl⟩
theorem compare_any (x y : Int) (w : World) :
    Calls Try.prog 77 #[.int .i64 x, .int .i64 y] w fun e w' => e = .returned (.int .i64 (if x < y then -1 else if x = y then 0 else 1)) ∧ w' = w := by
  by_cases h1 : x < y
  · rw [if_pos h1]
    go_enter Try.func77, Try.ntmps77
    go_wp2_with (go_at_call 95; refine (isNaN_any _ _).mono ?_; rintro e w1 ⟨rfl, rfl⟩)
    go_ret
    exact ⟨rfl, rfl⟩
  rw [if_neg h1]
  by_cases h2 : x = y
  · rw [if_pos h2]
    subst h2
    go_enter Try.func77, Try.ntmps77
    go_wp2_with (go_at_call 95; refine (isNaN_any _ _).mono ?_; rintro e w1 ⟨rfl, rfl⟩)
    go_ret
    exact ⟨rfl, rfl⟩
  · rw [if_neg h2]
    have h3 : y < x := by omega
    go_enter Try.func77, Try.ntmps77
    go_wp2_with (go_at_call 95; refine (isNaN_any _ _).mono ?_; rintro e w1 ⟨rfl, rfl⟩)
    go_ret
    exact ⟨rfl, rfl⟩
theorem sgn_cast (x y : Nat) : (if (x : Int) < (y : Int) then -1 else if (x : Int) = (y : Int) then 0 else 1 : Int) = sgn x y := by
  unfold sgn
  by_cases h1 : x < y
  · rw [if_pos h1, if_pos (by omega)]
  · rw [if_neg h1, if_neg (by omega)]
    by_cases h2 : x = y
    · rw [if_pos h2, if_pos (by omega)]
    · rw [if_neg h2, if_neg (by omega)]
theorem compare_nat (x y : Nat) (w : World) :
    Calls Try.prog 77 #[.int .i64 x, .int .i64 y] w fun e w' => e = .returned (.int .i64 (sgn x y)) ∧ w' = w := by
  rw [← sgn_cast]
  exact compare_any x y w
set_option maxRecDepth 100000 in
set_option maxHeartbeats 1000000 in
theorem natCmp_impl (A B : Option Addr) (n c m d : Nat) (xs ys : List Int) (w : World) (hA : VRow w A n (ints xs)) (hB : VRow w B m (ints ys)) (hn : n ≤ maxLen) (hm : m ≤ maxLen) :
    Calls Try.prog 102 #[.slice A n c, .slice B m d] w fun e w' => e = .returned (.int .i64 (cmpI xs ys)) ∧ Below w.heap.size w w' := by
  have HA := Lib.hid hA
  have HB := Lib.hid hB
  clear hA hB
  cases hx : okI xs with
  | false =>
    have e : cmpI xs ys = 0 := by simp [cmpI, hx]
    rw [e]
    clear e
    go_enter Try.func102, Try.ntmps102
    go_wp2_with fail
    refine (natOk_impl _ _ _ xs _ HA.out hn).mono ?_
    rintro e w1 ⟨rfl, hb⟩
    rw [hx]
    have HB1 := Lib.hid hb
    clear hb
    go_wp2
    go_ret
    exact ⟨rfl, HB1.out⟩
  | true =>
    obtain ⟨hxn, hxc, hxl⟩ := okI_nats hx
    go_enter Try.func102, Try.ntmps102
    go_wp2_with fail
    refine (natOk_impl _ _ _ xs _ HA.out hn).mono ?_
    rintro e w1 ⟨rfl, hb⟩
    rw [hx]
    have HB1 := Lib.hid hb
    clear hb
    go_wp2_with fail
    refine (natOk_impl _ _ _ ys _ (HB.out.below HB1.out (Nat.le_refl _)) hm).mono ?_
    rintro e w2 ⟨rfl, hb⟩
    have HB2 := Lib.hid (HB1.out.trans (hb.mono HB1.out.size))
    clear hb
    cases hy : okI ys with
    | false =>
      go_wp2
      go_ret
      exact ⟨ret_int (by simp [cmpI, hy]), HB2.out⟩
    | true =>
      obtain ⟨hyn, hyc, hyl⟩ := okI_nats hy
      have hA2 := HA.out.below HB2.out (Nat.le_refl _)
      have hBB2 := HB.out.below HB2.out (Nat.le_refl _)
      rw [hxn] at hA2
      rw [hyn] at hBB2
      have e : cmpI xs ys = sgn (val (toN xs)) (val (toN ys)) := by simp [cmpI, hx, hy]
      have HEQ := Lib.hid e
      clear e hxn hyn hx hy
      generalize toN xs = ds at *
      generalize toN ys = es at *
      have HL := Lib.hid (show ds.length = n by simpa [nats_len] using hA2.1)
      have HM := Lib.hid (show es.length = m by simpa [nats_len] using hBB2.1)
      have HX := Lib.hid hxc
      have HY := Lib.hid hyc
      have HA2 := Lib.hid hA2
      have HBB2 := Lib.hid hBB2
      clear hxc hyc hA2 hBB2
      unfold maxLen at hn hm
      by_cases hne : n = m
      · subst hne
        go_wp2
        go_loopw [5] (fun i wr => ∃ k q : Nat, k ≤ n ∧ i = .int .i64 ((k : Int) - 1) ∧ wr = w2.drewN q ∧ ds.drop k = es.drop k) (fun i _ => (intOf i + 1).toNat)
        case atStart => exact ⟨n, 0, Nat.le_refl _, by go_num, rfl, by rw [List.drop_of_length_le (by have := HL.out; omega), List.drop_of_length_le (by have := HM.out; omega)]⟩
        case round =>
          obtain ⟨k, q, hk, rfl, rfl, hdr⟩ := hrel
          have HDR := Lib.hid hdr
          clear hdr
          by_cases h0 : k = 0
          · subst h0
            go_wp2
            go_ret
            have e : ds = es := by simpa using HDR.out
            rw [HEQ.out, sgn_eq (by rw [e])]
            exact ⟨rfl, below_drewN HB2.out _⟩
          · obtain ⟨i, rfl⟩ : ∃ i, k = i + 1 := ⟨k - 1, by omega⟩
            have hwi : ((i + 1 : Nat) : Int) - 1 = (i : Int) := by omega
            rw [hwi]
            clear hwi
            obtain ⟨g, o, rfl, hg, hc⟩ := HA2.out.at_ (show i < n by omega)
            obtain ⟨g', o', rfl, hg', hc'⟩ := HBB2.out.at_ (show i < n by omega)
            rw [nats_get] at hc hc'
            have hix : i < ds.length := by have := HL.out; omega
            have hiy : i < es.length := by have := HM.out; omega
            obtain ⟨x, hx⟩ : ∃ x, ds[i] = x := ⟨_, rfl⟩
            obtain ⟨y, hy⟩ : ∃ y, es[i] = y := ⟨_, rfl⟩
            rw [hx] at hc
            rw [hy] at hc'
            have hin : i < n := by omega
            have hinZ : (i : Int) < (n : Int) := by omega
            have HXX := Lib.hid hx
            have HYY := Lib.hid hy
            clear hx hy
            by_cases h1 : x = y
            · subst h1
              go_wp2
              go_quiet (fail)
              go_wp2
              exact ⟨⟨i, _, by omega, by go_num, rfl, drop_eq_succ i hix hiy HDR.out (by rw [HXX.out, HYY.out])⟩, by simp [intOf]⟩
            · go_wp2
              go_quiet (fail)
              go_wp2
              have hb9 : Below w.heap.size w ((w2.drewN q).drewN nq) := below_drewN (below_drewN HB2.out _) _
              have hc9 : ((w2.drewN q).drewN nq).cell? ⟨g, o + i, none⟩ = some (.int .i64 (x : Int)) := hc
              have hc9' : ((w2.drewN q).drewN nq).cell? ⟨g', o' + i, none⟩ = some (.int .i64 (y : Int)) := hc'
              have HB9 := Lib.hid hb9
              clear hb9 hc hc'
              generalize (w2.drewN q).drewN nq = w9 at *
              go_quiet ((go_at_call 77; refine Calls.quiet_of_same (compare_nat x y _)))
              go_wp2
              go_ret
              refine ⟨ret_int ?_, below_drewN HB9.out _⟩
              rw [HEQ.out]
              rcases Nat.lt_or_gt_of_ne h1 with h2 | h2
              · rw [sgn_lt h2, sgn_lt (val_lt_at HX.out.1 i hix hiy HDR.out (by rw [HXX.out, HYY.out]; exact h2))]
              · rw [sgn_gt h2, sgn_gt (val_lt_at HY.out.1 i hiy hix HDR.out.symm (by rw [HXX.out, HYY.out]; exact h2))]
      · go_wp2_with fail
        refine (compare_nat n m _).mono ?_
        rintro e w3 ⟨rfl, rfl⟩
        go_wp2
        go_ret
        refine ⟨ret_int ?_, HB2.out⟩
        rw [HEQ.out]
        rcases Nat.lt_or_gt_of_ne hne with h2 | h2
        · rw [sgn_lt h2, sgn_lt (val_lt_len HX.out.1 HY.out (by have := HL.out; have := HM.out; omega))]
        · rw [sgn_gt h2, sgn_gt (val_lt_len HY.out.1 HX.out (by have := HL.out; have := HM.out; omega))]
end Go.Proofs.Ytdilbhkdkppodaa
