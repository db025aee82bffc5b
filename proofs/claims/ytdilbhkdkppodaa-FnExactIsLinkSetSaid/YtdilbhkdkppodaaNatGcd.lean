/- Contracts of NatGcd, of the model (with l02Plain, l02Gcd) and of the program. Conditions: none. -/
import Derived.Test.YtdilbhkdkppodaaProg
import Derived.Test.YtdilbhkdkppodaaNatDiv
import Derived.Test.YtdilbhkdkppodaaNatToInt
namespace Go.Proofs.Ytdilbhkdkppodaa
open Go.RowKit Nt
set_option linter.unusedVariables false

/-- The number that a row of limbs reads as, wherever it lies. -/
def rowVal (w : World) : Value → Nat
  | .slice (some ⟨g, o, none⟩) n _ => vs (fun k => match w.cell? ⟨g, o + k, none⟩ with | some (.int _ z) => z.toNat | _ => 0) n
  | _ => 0
theorem vs_congr (f g : Nat → Nat) (n : Nat) (h : ∀ k, k < n → f k = g k) : vs f n = vs g n := by
  induction n with
  | zero => rfl
  | succ n ih => rw [vs, vs, ih (fun k hk => h k (by omega)), h n (by omega)]
theorem rowVal_of {w : World} {A : Option Addr} {n c : Nat} {ds : List Nat} (h : VRow w A n (nats ds)) : rowVal w (.slice A n c) = val ds := by
  have hl : ds.length = n := by simpa [nats_len] using h.1
  by_cases h0 : n = 0
  · subst h0
    have e := List.eq_nil_of_length_eq_zero hl
    subst e
    cases A with
    | none => rfl
    | some a => obtain ⟨g, o, s⟩ := a; cases s <;> rfl
  · obtain ⟨g, o, rfl, hlt, hc⟩ := h.2 (by omega)
    have e : val ds = vs (fun j => ds.getD j 0) n := by rw [vs_all ds n (by omega)]
    rw [e]
    refine vs_congr _ _ n fun k hk => ?_
    have hk2 : k < ds.length := by omega
    rw [hc k hk]
    simp [nats, ints, hk2]
theorem gcd_step (x y : Nat) : Nat.gcd y (x % y) = Nat.gcd x y := by
  rw [Nat.gcd_comm y (x % y), ← Nat.gcd_rec, Nat.gcd_comm]
/-- What NatGcd answers. -/
def gcdN (xs ys : List Int) : List Nat := if okI xs = true ∧ okI ys = true then dig (Nat.gcd (val (toN xs)) (val (toN ys))) else []
theorem gcdN_yes {xs ys : List Int} (h1 : okI xs = true) (h2 : okI ys = true) : gcdN xs ys = dig (Nat.gcd (val (toN xs)) (val (toN ys))) := by rw [gcdN, if_pos ⟨h1, h2⟩]
theorem gcdN_no {xs ys : List Int} (h : okI xs = false ∨ okI ys = false) : gcdN xs ys = [] := by rw [gcdN, if_neg (by rintro ⟨h1, h2⟩; rcases h with h | h <;> simp_all)]
theorem gcd_lt {a b k : Nat} (ha : a < 1000000000 ^ k) (hb : b < 1000000000 ^ k) : Nat.gcd a b < 1000000000 ^ k := by
  rcases Nat.eq_zero_or_pos a with h | h
  · subst h; rw [Nat.gcd_zero_left]; exact hb
  · exact Nat.lt_of_le_of_lt (Nat.gcd_le_left b h) ha
theorem gcdN_len (xs ys : List Int) : (gcdN xs ys).length ≤ 60 := by
  unfold gcdN
  split
  · rename_i h
    obtain ⟨_, h1, h2⟩ := okI_nats h.1
    obtain ⟨_, h3, h4⟩ := okI_nats h.2
    exact dig_len (gcd_lt (Nat.lt_of_lt_of_le (val_lt h1.1) (Nat.pow_le_pow_right (by decide) h2)) (Nat.lt_of_lt_of_le (val_lt h3.1) (Nat.pow_le_pow_right (by decide) h4)))
  · simp
set_option maxRecDepth 100000 in
set_option maxHeartbeats 1000000 in
theorem l02Plain_any (X Y : Nat) (w : World) (hX : X ≤ 9223372036854775807) (hY : Y ≤ 9223372036854775807) :
    Calls Try.prog 65 #[.int .i64 X, .int .i64 Y] w (OwnR 3 (nats (dig (Nat.gcd X Y))) w) := by
  go_enter Try.func65, Try.ntmps65
  go_wp2
  go_loop [0, 1] (fun a b => ∃ x y : Nat, a = .int .i64 x ∧ b = .int .i64 y ∧ x ≤ 9223372036854775807 ∧ y ≤ 9223372036854775807 ∧ Nat.gcd x y = Nat.gcd X Y) (fun _ b => (intOf b).toNat)
  case atStart => exact ⟨X, Y, rfl, rfl, hX, hY, rfl⟩
  case round =>
    obtain ⟨x, y, rfl, rfl, hx, hy, hg⟩ := hrel
    have HG := Lib.hid hg
    clear hg
    by_cases h0 : 0 < y
    · obtain ⟨r, hr⟩ : ∃ r, x % y = r := ⟨_, rfl⟩
      have hrb : r < y := by rw [← hr]; exact Nat.mod_lt _ h0
      have hrz : (x : Int) % (y : Int) = (r : Int) := by rw [← hr, Int.natCast_emod]
      have hyz : ¬ (y : Int) = 0 := by omega
      have hyb : ((y : Int) == 0) = false := beq_eq_false_iff_ne.mpr hyz
      have HR := Lib.hid hr
      clear hr
      go_wp2
      exact ⟨⟨y, r, rfl, by first | rfl | go_num, hy, by omega, by rw [← HR.out, gcd_step]; exact HG.out⟩, by simp [intOf]; omega⟩
    · obtain rfl : y = 0 := by omega
      go_wp2_with fail
      refine (natOf_spec (x : Int) _ (by omega)).mono ?_
      rintro e w1 ⟨v, rfl, ho, hb⟩
      have HO := Lib.hid ho
      have HB := Lib.hid hb
      clear ho hb
      go_wp2
      go_ret
      have hg := HG.out
      rw [Nat.gcd_zero_right] at hg
      have hv := HO.out
      rw [Int.toNat_natCast, hg] at hv
      exact ⟨_, rfl, hv, HB.out⟩
theorem intI_dig (X : Nat) (h : X < 1000000000 ^ 2) : intI ((dig X).map fun d : Nat => (d : Int)) = (X : Int) ∧ fitsI ((dig X).map fun d : Nat => (d : Int)) = true := by
  have hl : (dig X).length ≤ 60 := Nat.le_trans (dig_len h) (by decide)
  have hf : fitsI ((dig X).map fun d : Nat => (d : Int)) = true := by
    rw [fits_iff, toN_nats, val_dig]
    exact ⟨okI_of_nats (dig_can X) hl, by omega⟩
  refine ⟨?_, hf⟩
  rw [← int_yes hf, toN_nats, val_dig]
set_option maxRecDepth 100000 in
set_option maxHeartbeats 4000000 in
theorem l02Gcd_any (A B : Option Addr) (n c m d : Nat) (ds bs : List Nat) (w : World) (hA : VRow w A n (nats ds)) (hB : VRow w B m (nats bs)) (hds : Canon ds) (hbs : Canon bs) (hnA : A = none → c = 0) (hnB : B = none → d = 0) (hn : n ≤ 60) (hm : m ≤ 60) :
    Calls Try.prog 48 #[.slice A n c, .slice B m d] w (OwnR 3 (nats (dig (Nat.gcd (val ds) (val bs)))) w) := by
  obtain ⟨i0, hi, hz0, hz1, hz2⟩ := info_parts info_int
  have HL := Lib.hid (show ds.length = n by simpa [nats_len] using hA.1)
  have HM := Lib.hid (show bs.length = m by simpa [nats_len] using hB.1)
  have HNA := Lib.hid hnA
  have HNB := Lib.hid hnB
  have HA := Lib.hid hA
  have HB := Lib.hid hB
  have HD := Lib.hid hds
  have HS := Lib.hid hbs
  have HA1 := Lib.hid (hA.below ((Below.refl _ _).alloc (Nat.le_refl _) (.cells #[] 3)) (Nat.le_refl _))
  have HM1 := Lib.hid (World.ownsRow_made (base := w.heap.size) (e := 3) (size := 1) w #[] 0 (Nat.le_refl _) (Nat.zero_le _) rfl)
  have HOCd := Lib.hid (nats_oneCell ds)
  have HOCb := Lib.hid (nats_oneCell bs)
  clear hA hB hds hbs hnA hnB
  go_enter Try.func48, Try.ntmps48
  go_wp2_with (first
    | (at_builtin
       refine wpList_append_row rfl (.tmp 13) (.tmp 14) 22 rfl w.heap.size 3 i0 _ 8 Try.underlying22 hi hz0 hz1 hz2 rfl _ 0 [] rfl HM1.out A n c (nats ds) rfl HA1.out HNA.out HOCd.out (by unfold maxLen; omega) (by omega) (by simp) ?_
       intro v1 w1 hown1 hgrow1
       rw [Nat.zero_add, List.nil_append] at hown1
       have HO1 := Lib.hid (OwnV.of_own hown1)
       have HB1 := Lib.hid (((Below.refl w.heap.size w).alloc (Nat.le_refl _) _).grown hgrow1 (by simp) (fun k hk => by have e9 : w.heap.size = k := Option.some.inj hk; omega))
       clear hown1 hgrow1
       have HBB1 := Lib.hid ((HB.out.below HB1.out (Nat.le_refl _)).below ((Below.refl _ _).alloc (Nat.le_refl _) (.cells #[] 3)) (Nat.le_refl _))
       have HM2 := Lib.hid (World.ownsRow_made (base := w1.heap.size) (e := 3) (size := 1) w1 #[] 0 (Nat.le_refl _) (Nat.zero_le _) rfl))
    | (at_builtin
       refine wpList_append_row rfl (.tmp 16) (.tmp 17) 22 rfl w1.heap.size 3 i0 _ 8 Try.underlying22 hi hz0 hz1 hz2 rfl _ 0 [] rfl HM2.out B m d (nats bs) rfl HBB1.out HNB.out HOCb.out (by unfold maxLen; omega) (by omega) (by simp) ?_
       intro v2 w2 hown2 hgrow2))
  rw [Nat.zero_add, List.nil_append] at hown2
  have hb2 := ((Below.refl w1.heap.size w1).alloc (Nat.le_refl _) (.cells #[] 3)).grown hgrow2 (by simp) (fun k hk => by have e9 : w1.heap.size = k := Option.some.inj hk; omega)
  have HO2 := Lib.hid ((OwnV.of_own hown2).based HB1.out.size)
  have HO1' := Lib.hid (HO1.out.below hb2)
  have HB2 := Lib.hid (HB1.out.trans (hb2.mono HB1.out.size))
  clear hown2 hgrow2 hb2
  go_wp2
  go_loopw [5, 6] (fun a b wr => ∃ X Y : Nat, OwnV wr w.heap.size 3 a (nats (dig X)) ∧ OwnV wr w.heap.size 3 b (nats (dig Y)) ∧ X < 1000000000 ^ 60 ∧ Y < 1000000000 ^ 60 ∧ Nat.gcd X Y = Nat.gcd (val ds) (val bs) ∧ Below w.heap.size w wr) (fun _ b wr => rowVal wr b)
  case atStart =>
    refine ⟨val ds, val bs, ?_, ?_, ?_, ?_, rfl, HB2.out⟩
    · rw [dig_of_can HD.out]; exact HO1'.out
    · rw [dig_of_can HS.out]; exact HO2.out
    · exact Nat.lt_of_lt_of_le (val_lt HD.out.1) (Nat.pow_le_pow_right (by decide) (by rw [HL.out]; exact hn))
    · exact Nat.lt_of_lt_of_le (val_lt HS.out.1) (Nat.pow_le_pow_right (by decide) (by rw [HM.out]; exact hm))
  case round =>
    obtain ⟨X, Y, hox, hoy, hX, hY, hg, hb⟩ := hrel
    obtain ⟨Ax, cx, rfl⟩ := hox.shape
    obtain ⟨Ay, cy, rfl⟩ := hoy.shape
    have hlx : (nats (dig X)).length ≤ 60 := by rw [nats_len]; exact dig_len hX
    have hly : (nats (dig Y)).length ≤ 60 := by rw [nats_len]; exact dig_len hY
    have hRV : rowVal wr (.slice Ay (nats (dig Y)).length cy) = Y := by rw [rowVal_of hoy.row, val_dig]
    obtain ⟨lx, hlxe⟩ : ∃ lx, (nats (dig X)).length = lx := ⟨_, rfl⟩
    obtain ⟨ly, hlye⟩ : ∃ ly, (nats (dig Y)).length = ly := ⟨_, rfl⟩
    rw [hlxe] at hox hlx ⊢
    rw [hlye] at hoy hly hRV ⊢
    rw [nats_len] at hlxe hlye
    have HOX := Lib.hid hox
    have HOY := Lib.hid hoy
    have HX := Lib.hid hX
    have HY := Lib.hid hY
    have HG := Lib.hid hg
    have HBr := Lib.hid hb
    have HLX := Lib.hid hlxe
    have HLY := Lib.hid hlye
    have HRV := Lib.hid hRV
    clear hox hoy hX hY hg hb hlxe hlye hRV
    by_cases h0 : ly = 0
    · subst h0
      go_wp2
      go_ret
      have hY0 : Y = 0 := dig_nil_iff.mp (List.eq_nil_of_length_eq_zero HLY.out)
      have hg := HG.out
      rw [hY0, Nat.gcd_zero_right] at hg
      rw [← hg]
      exact ⟨_, rfl, HOX.out, HBr.out⟩
    · have hyp : 0 < Y := by
        rcases Nat.eq_zero_or_pos Y with h | h
        · exfalso; apply h0; rw [← HLY.out, h, dig_zero]; rfl
        · exact h
      have hlz : (0 : Int) < (ly : Int) := by omega
      by_cases hs : lx < 3 ∧ ly < 3
      · obtain ⟨hs1, hs2⟩ := hs
        have hX2 : X < 1000000000 ^ 2 := dig_len_iff.mp (by rw [HLX.out]; omega)
        have hY2 : Y < 1000000000 ^ 2 := dig_len_iff.mp (by rw [HLY.out]; omega)
        have hs1z : (lx : Int) < 3 := by omega
        have hs2z : (ly : Int) < 3 := by omega
        go_wp2_with fail
        refine (natToInt_spec _ _ _ ((dig X).map fun d : Nat => (d : Int)) _ HOX.out.row (by unfold maxLen; omega)).mono ?_
        rintro e w3 ⟨rfl, hb3⟩
        rw [(intI_dig X hX2).1, (intI_dig X hX2).2]
        have HB3 := Lib.hid (HBr.out.trans (hb3.mono HBr.out.size))
        have HOY3 := Lib.hid (HOY.out.below hb3)
        clear hb3
        go_wp2_with fail
        refine (natToInt_spec _ _ _ ((dig Y).map fun d : Nat => (d : Int)) _ HOY3.out.row (by unfold maxLen; omega)).mono ?_
        rintro e w4 ⟨rfl, hb4⟩
        rw [(intI_dig Y hY2).1, (intI_dig Y hY2).2]
        have HB4 := Lib.hid (HB3.out.trans (hb4.mono HB3.out.size))
        have hXm : X ≤ 9223372036854775807 := by omega
        have hYm : Y ≤ 9223372036854775807 := by omega
        clear hb4 hX2 hY2
        go_wp2_with fail
        refine (l02Plain_any X Y _ hXm hYm).mono ?_
        rintro e w5 ⟨v5, rfl, ho5, hb5⟩
        have HO5 := Lib.hid ho5
        have HB5 := Lib.hid (HB4.out.trans (hb5.mono HB4.out.size))
        clear ho5 hb5
        go_wp2
        go_ret
        refine ⟨_, rfl, ?_, HB5.out⟩
        rw [← HG.out]
        exact HO5.out.based HB4.out.size
      · by_cases hs1 : lx < 3
        · have hs2 : ¬ ly < 3 := fun h => hs ⟨hs1, h⟩
          have hs1z : (lx : Int) < 3 := by omega
          have hs2z : ¬ (ly : Int) < 3 := by omega
          go_wp2_with fail
          refine (l02Div_any _ _ _ _ _ _ (dig X) (dig Y) _ HOX.out.row HOY.out.row (dig_digs _) (dig_can _) (by omega) (by omega) (by omega)).mono ?_
          rintro e w3 ⟨v0, v3, rfl, ho0, ho3, _, _, hb3⟩
          rw [val_dig, val_dig] at ho3
          have HO3 := Lib.hid (ho3.based HBr.out.size)
          have HOY3 := Lib.hid (HOY.out.below hb3)
          have HB3 := Lib.hid (HBr.out.trans (hb3.mono HBr.out.size))
          clear ho0 ho3 hb3
          go_wp2
          refine ⟨⟨Y, X % Y, HOY3.out, HO3.out, HY.out, Nat.lt_trans (Nat.mod_lt _ hyp) HY.out, by rw [gcd_step]; exact HG.out, HB3.out⟩, ?_⟩
          rw [HRV.out]
          obtain ⟨A9, c9, hv9⟩ := HO3.out.shape
          have hr9 := HO3.out
          rw [hv9] at hr9 ⊢
          rw [rowVal_of hr9.row, val_dig]
          exact Nat.mod_lt _ hyp
        · have hs1z : ¬ (lx : Int) < 3 := by omega
          go_wp2_with fail
          refine (l02Div_any _ _ _ _ _ _ (dig X) (dig Y) _ HOX.out.row HOY.out.row (dig_digs _) (dig_can _) (by omega) (by omega) (by omega)).mono ?_
          rintro e w3 ⟨v0, v3, rfl, ho0, ho3, _, _, hb3⟩
          rw [val_dig, val_dig] at ho3
          have HO3 := Lib.hid (ho3.based HBr.out.size)
          have HOY3 := Lib.hid (HOY.out.below hb3)
          have HB3 := Lib.hid (HBr.out.trans (hb3.mono HBr.out.size))
          clear ho0 ho3 hb3
          go_wp2
          refine ⟨⟨Y, X % Y, HOY3.out, HO3.out, HY.out, Nat.lt_trans (Nat.mod_lt _ hyp) HY.out, by rw [gcd_step]; exact HG.out, HB3.out⟩, ?_⟩
          rw [HRV.out]
          obtain ⟨A9, c9, hv9⟩ := HO3.out.shape
          have hr9 := HO3.out
          rw [hv9] at hr9 ⊢
          rw [rowVal_of hr9.row, val_dig]
          exact Nat.mod_lt _ hyp
set_option maxRecDepth 100000 in
set_option maxHeartbeats 2000000 in
theorem natGcd_impl (A B : Option Addr) (n c m d : Nat) (xs ys : List Int) (w : World) (hA : VRow w A n (ints xs)) (hB : VRow w B m (ints ys)) (hn : n ≤ maxLen) (hm : m ≤ maxLen) :
    Calls Try.prog 70 #[.slice A n c, .slice B m d] w (OwnR 3 (nats (gcdN xs ys)) w) := by
  have HA := Lib.hid hA
  have HB := Lib.hid hB
  clear hA hB
  cases hx : okI xs with
  | false =>
    have HEQ := Lib.hid (gcdN_no (xs := xs) (ys := ys) (.inl hx))
    go_enter Try.func70, Try.ntmps70
    go_wp2_with fail
    refine (natOk_impl _ _ _ xs _ HA.out hn).mono ?_
    rintro e w1 ⟨rfl, hb⟩
    rw [hx]
    have HB1 := Lib.hid hb
    clear hb
    go_wp2
    go_ret
    rw [HEQ.out]
    exact ⟨_, rfl, OwnV.nil _ _ _, HB1.out⟩
  | true =>
    obtain ⟨hxn, hxc, hxl⟩ := okI_nats hx
    go_enter Try.func70, Try.ntmps70
    go_wp2_with fail
    refine (natOk_impl _ _ _ xs _ HA.out hn).mono ?_
    rintro e w1 ⟨rfl, hb⟩
    rw [hx]
    have HB1 := Lib.hid hb
    clear hb
    go_wp2_with fail
    refine (natOk_impl _ _ _ ys _ (HB.out.below HB1.out (Nat.le_refl _)) hm).mono ?_
    rintro e w2 ⟨rfl, hb⟩
    have HB2 := Lib.hid (HB1.out.trans (hb.mono HB1.out.size))
    clear hb
    cases hy : okI ys with
    | false =>
      have HEQ := Lib.hid (gcdN_no (xs := xs) (ys := ys) (.inr hy))
      go_wp2
      go_ret
      rw [HEQ.out]
      exact ⟨_, rfl, OwnV.nil _ _ _, HB2.out⟩
    | true =>
      obtain ⟨hyn, hyc, hyl⟩ := okI_nats hy
      have hA2 := HA.out.below HB2.out (Nat.le_refl _)
      have hBB2 := HB.out.below HB2.out (Nat.le_refl _)
      rw [hxn] at hA2
      rw [hyn] at hBB2
      have HEQ := Lib.hid (gcdN_yes hx hy)
      clear hxn hyn hx hy HA HB HB1
      generalize toN xs = ds at *
      generalize toN ys = es at *
      have HL := Lib.hid (show ds.length = n by simpa [nats_len] using hA2.1)
      have HM := Lib.hid (show es.length = m by simpa [nats_len] using hBB2.1)
      have hn60 : n ≤ 60 := by have := HL.out; omega
      have hm60 : m ≤ 60 := by have := HM.out; omega
      have HX := Lib.hid hxc
      have HY := Lib.hid hyc
      have HA2 := Lib.hid hA2
      have HBB2 := Lib.hid hBB2
      clear hxc hyc hA2 hBB2 hn hm hxl hyl
      obtain ⟨i0, hi, hz0, hz1, hz2⟩ := info_parts info_int
      by_cases hnm : n < m
      · have HMX := Lib.hid (show max (n : Int) (m : Int) = (m : Int) by omega)
        go_wp2_with fail
        refine (rowOf_any _ n c n _ (by first | rfl | omega) ds _ HA2.out (Nat.le_refl _) (by omega)).mono ?_
        rintro e w3 ⟨rfl, hw3, hb3⟩
        rw [Nat.sub_self, List.replicate_zero, List.append_nil] at hw3
        have HW3 := Lib.hid hw3
        have HSZ3 := Lib.hid hw3.lt.2
        have HBB3 := Lib.hid (HBB2.out.below hb3 (Nat.le_refl _))
        have HB3 := Lib.hid (HB2.out.trans (hb3.mono HB2.out.size))
        clear hw3 hb3
        go_wp2_with fail
        refine (rowOf_any _ m d m _ (by first | rfl | omega) es _ HBB3.out (Nat.le_refl _) (by omega)).mono ?_
        rintro e w4 ⟨rfl, hw4, hb4⟩
        rw [Nat.sub_self, List.replicate_zero, List.append_nil] at hw4
        have HWY := Lib.hid (hw4.based (Nat.le_of_lt HSZ3.out))
        have HSZ4 := Lib.hid hw4.lt.2
        have HWX := Lib.hid (HW3.out.below hb4)
        have HB4 := Lib.hid (HB3.out.trans (hb4.mono HB3.out.size))
        clear hw4 hb4 HW3
        go_wp2_with (at_make; refine wpList_make_full _ rfl _ _ _ rfl w4.heap.size 3 i0 _ 1 Try.underlying22 hi hz0 hz1 .i64 .i64 _ _ m rfl rfl HMX.out HMX.out (by rw [hz2]; omega) (by unfold maxLen; omega) (Nat.le_refl _) ?_; intro w5 hown hgrow)
        have hb5 := (Below.refl w4.heap.size w4).grown hgrow (Nat.le_refl _) (by simp)
        have HWQ := Lib.hid ((made_whole hown).based (show w2.heap.size ≤ w4.heap.size by have := HSZ3.out; have := HSZ4.out; omega))
        have HWX5 := Lib.hid (HWX.out.below hb5)
        have HWY5 := Lib.hid (HWY.out.below hb5)
        have HB5 := Lib.hid (HB4.out.trans (hb5.mono HB4.out.size))
        clear hown hgrow hb5 HWX HWY
        obtain ⟨gx, hgx⟩ : ∃ gx, w2.heap.size = gx := ⟨_, rfl⟩
        obtain ⟨gy, hgy⟩ : ∃ gy, w3.heap.size = gy := ⟨_, rfl⟩
        obtain ⟨gq, hgq⟩ : ∃ gq, w4.heap.size = gq := ⟨_, rfl⟩
        have hgne : gx ≠ gy ∧ gx ≠ gq ∧ gy ≠ gq := by have := HSZ3.out; have := HSZ4.out; omega
        have HGX := Lib.hid hgx
        have HGY := Lib.hid hgy
        have HGQ := Lib.hid hgq
        rw [hgx, hgy, hgq]
        clear hgx hgy hgq
        go_wp2
        go_loopw [5, 6] (fun a b wr => ∃ (X Y g1 g2 lx cx ly cy : Nat) (RX RY Z : List Nat), a = .slice (some ⟨g1, 0, none⟩) lx cx ∧ b = .slice (some ⟨g2, 0, none⟩) ly cy ∧ g1 ≠ g2 ∧ g1 ≠ gq ∧ g2 ≠ gq ∧ gx ≤ g1 ∧ gx ≤ g2 ∧ lx ≤ cx ∧ cx ≤ RX.length ∧ RX.length ≤ 60 ∧ ly ≤ cy ∧ cy ≤ RY.length ∧ RY.length ≤ 60 ∧ Digs RX ∧ Digs RY ∧ RX.take lx = dig X ∧ RY.take ly = dig Y ∧ lx ≤ m ∧ ly ≤ m ∧ Z.length = m ∧
            Whole wr gx g1 3 (nats RX) ∧ Whole wr gx g2 3 (nats RY) ∧ Whole wr gx gq 3 (nats Z) ∧ Nat.gcd X Y = Nat.gcd (val ds) (val es) ∧ Below w.heap.size w wr) (fun _ b wr => rowVal wr b)
        case atStart =>
          refine ⟨val ds, val es, gx, gy, n, n, m, m, ds, es, List.replicate m 0, rfl, rfl, hgne.1, hgne.2.1, hgne.2.2, Nat.le_refl _, ?_, Nat.le_refl _, by rw [HL.out]; exact Nat.le_refl _, by rw [HL.out]; omega, Nat.le_refl _, by rw [HM.out]; exact Nat.le_refl _, by rw [HM.out]; omega, HX.out.1, HY.out.1, ?_, ?_, by omega, by omega, by simp, ?_, ?_, ?_, rfl, HB5.out⟩
          · have := HWY5.out.lt.1; rw [HGX.out, HGY.out] at this; exact this
          · rw [List.take_of_length_le (by rw [HL.out]; exact Nat.le_refl _), dig_of_can HX.out]
          · rw [List.take_of_length_le (by rw [HM.out]; exact Nat.le_refl _), dig_of_can HY.out]
          · have h := HWX5.out; rw [HGX.out] at h; exact h
          · have h := HWY5.out; rw [HGX.out, HGY.out] at h; exact h
          · have h := HWQ.out; rw [HGX.out, HGQ.out] at h; exact h
        case round =>
          obtain ⟨X, Y, g1, g2, lx, cx, ly, cy, RX, RY, Z, rfl, rfl, h12, h1q, h2q, hgx1, hgx2, hlx, hcx, hrx, hly, hcy, hry, hdx, hdy, htx, hty, hlxq, hlyq, hzl, hwx, hwy, hwq, hg, hb⟩ := hrel
          have HDX := Lib.hid hdx
          have HDY := Lib.hid hdy
          have HTX := Lib.hid htx
          have HTY := Lib.hid hty
          have HWX := Lib.hid hwx
          have HWY := Lib.hid hwy
          have HWQ := Lib.hid hwq
          have HG := Lib.hid hg
          have HBr := Lib.hid hb
          clear hdx hdy htx hty hwx hwy hwq hg hb
          by_cases h0 : ly = 0
          · subst h0
            have hY0 : Y = 0 := by
              have h := HTY.out
              rw [List.take_zero] at h
              exact dig_nil_iff.mp h.symm
            have HY0 := Lib.hid hY0
            clear hY0
            go_wp2
            go_ret
            have hg := HG.out
            rw [HY0.out, Nat.gcd_zero_right] at hg
            refine ⟨_, rfl, ?_, HBr.out⟩
            rw [HEQ.out, ← hg, ← HTX.out]
            have h := (OwnV.of_whole HWX.out).cut (m := lx) (c2 := cx) (by rw [nats_len]; omega) hlx (by rw [nats_len]; exact hcx)
            rw [nats_take] at h
            exact h.based (by have := HB2.out.size; have := HGX.out; omega)
          · have hrowY : VRow wr (some ⟨g2, 0, none⟩) ly (nats (dig Y)) := by
              have h := HWY.out.row 0 ly (by rw [nats_len]; omega)
              rw [List.drop_zero, nats_take, HTY.out] at h
              exact h
            have hRV : rowVal wr (.slice (some ⟨g2, 0, none⟩) ly cy) = Y := by rw [rowVal_of hrowY, val_dig]
            have hyp : 0 < Y := by
              rcases Nat.eq_zero_or_pos Y with h | h
              · exfalso
                apply h0
                have e := congrArg List.length HTY.out
                rw [h, dig_zero, List.length_take] at e
                simp at e
                rcases e with e | e
                · exact e
                · rw [e] at hcy; simp at hcy; omega
              · exact h
            have HROW := Lib.hid hrowY
            have HRV := Lib.hid hRV
            clear hrowY hRV
            have hlz : (0 : Int) < (ly : Int) := by omega
            go_wp2_with fail
            refine (reduceRow_any g1 gq lx cx m m ly cy gx RX Z (dig Y) _ _ HWX.out HWQ.out HROW.out (fun a ha => by obtain rfl : (⟨g2, 0, none⟩ : Addr) = a := Option.some.inj ha; exact ⟨fun e => h12 e.symm, h2q⟩) h1q HDX.out (by rw [HTX.out]; exact dig_can X) (dig_can Y) hlx hcx (by omega) hlxq (by rw [hzl]; exact Nat.le_refl _) (by omega) (by omega)).mono ?_
            rintro e w6 ⟨r, rc, R, QS, rfl, hr1, hr2, hr3, hr4, hr5, hr6, hr7, hz5, hq1, hq2, hq3, hlv⟩
            rw [HTX.out, val_dig, val_dig] at hr1 hr6
            have HWY6 := Lib.hid (HWY.out.leaves hlv (fun e => h12 e.symm) h2q)
            have HB6 := Lib.hid (hlv.below HBr.out HBr.out.size (by have := HB2.out.size; have := HGX.out; omega) (by have := HB2.out.size; have := HGX.out; have := HWQ.out.lt.1; omega))
            have HR1 := Lib.hid hr1
            have HR5 := Lib.hid hr5
            have HR6 := Lib.hid hr6
            have HR7 := Lib.hid hr7
            have HZ5 := Lib.hid hz5
            have hrl : r ≤ ly := by
              have h1 := congrArg List.length HTY.out
              rw [List.length_take, Nat.min_eq_left (by omega)] at h1
              rw [hr1, h1]
              exact canon_len (dig_can _) (dig_digs _) (by rw [val_dig, val_dig]; exact Nat.le_of_lt (Nat.mod_lt _ hyp))
            have hzl2 : (qrow Z QS 0).length = m := by rw [qrow_len _ _ _ (by omega)]; exact hzl
            have HZL2 := Lib.hid hzl2
            clear hr1 hr5 hr6 hr7 hz5 hq2 hq3 hlv hzl2
            go_wp2
            refine ⟨⟨Y, X % Y, g2, g1, ly, cy, r, rc, RY, R, qrow Z QS 0, rfl, rfl, fun e => h12 e.symm, h2q, h1q, hgx2, hgx1, hly, hcy, hry, hr2, hr3, by omega, HDY.out, HR5.out, HTY.out, HR6.out, hlyq, by omega, HZL2.out, HWY6.out, HR7.out, HZ5.out, by rw [gcd_step]; exact HG.out, HB6.out⟩, ?_⟩
            rw [HRV.out]
            have hrow2 : VRow w6 (some ⟨g1, 0, none⟩) r (nats (dig (X % Y))) := by
              have h := HR7.out.row 0 r (by rw [nats_len]; omega)
              rw [List.drop_zero, nats_take, HR6.out] at h
              exact h
            rw [rowVal_of hrow2, val_dig]
            exact Nat.mod_lt _ hyp
      · have HMX := Lib.hid (show max (n : Int) (m : Int) = (n : Int) by omega)
        go_wp2_with fail
        refine (rowOf_any _ n c n _ (by first | rfl | omega) ds _ HA2.out (Nat.le_refl _) (by omega)).mono ?_
        rintro e w3 ⟨rfl, hw3, hb3⟩
        rw [Nat.sub_self, List.replicate_zero, List.append_nil] at hw3
        have HW3 := Lib.hid hw3
        have HSZ3 := Lib.hid hw3.lt.2
        have HBB3 := Lib.hid (HBB2.out.below hb3 (Nat.le_refl _))
        have HB3 := Lib.hid (HB2.out.trans (hb3.mono HB2.out.size))
        clear hw3 hb3
        go_wp2_with fail
        refine (rowOf_any _ m d m _ (by first | rfl | omega) es _ HBB3.out (Nat.le_refl _) (by omega)).mono ?_
        rintro e w4 ⟨rfl, hw4, hb4⟩
        rw [Nat.sub_self, List.replicate_zero, List.append_nil] at hw4
        have HWY := Lib.hid (hw4.based (Nat.le_of_lt HSZ3.out))
        have HSZ4 := Lib.hid hw4.lt.2
        have HWX := Lib.hid (HW3.out.below hb4)
        have HB4 := Lib.hid (HB3.out.trans (hb4.mono HB3.out.size))
        clear hw4 hb4 HW3
        go_wp2_with (at_make; refine wpList_make_full _ rfl _ _ _ rfl w4.heap.size 3 i0 _ 1 Try.underlying22 hi hz0 hz1 .i64 .i64 _ _ n rfl rfl HMX.out HMX.out (by rw [hz2]; omega) (by unfold maxLen; omega) (Nat.le_refl _) ?_; intro w5 hown hgrow)
        have hb5 := (Below.refl w4.heap.size w4).grown hgrow (Nat.le_refl _) (by simp)
        have HWQ := Lib.hid ((made_whole hown).based (show w2.heap.size ≤ w4.heap.size by have := HSZ3.out; have := HSZ4.out; omega))
        have HWX5 := Lib.hid (HWX.out.below hb5)
        have HWY5 := Lib.hid (HWY.out.below hb5)
        have HB5 := Lib.hid (HB4.out.trans (hb5.mono HB4.out.size))
        clear hown hgrow hb5 HWX HWY
        obtain ⟨gx, hgx⟩ : ∃ gx, w2.heap.size = gx := ⟨_, rfl⟩
        obtain ⟨gy, hgy⟩ : ∃ gy, w3.heap.size = gy := ⟨_, rfl⟩
        obtain ⟨gq, hgq⟩ : ∃ gq, w4.heap.size = gq := ⟨_, rfl⟩
        have hgne : gx ≠ gy ∧ gx ≠ gq ∧ gy ≠ gq := by have := HSZ3.out; have := HSZ4.out; omega
        have HGX := Lib.hid hgx
        have HGY := Lib.hid hgy
        have HGQ := Lib.hid hgq
        rw [hgx, hgy, hgq]
        clear hgx hgy hgq
        go_wp2
        go_loopw [5, 6] (fun a b wr => ∃ (X Y g1 g2 lx cx ly cy : Nat) (RX RY Z : List Nat), a = .slice (some ⟨g1, 0, none⟩) lx cx ∧ b = .slice (some ⟨g2, 0, none⟩) ly cy ∧ g1 ≠ g2 ∧ g1 ≠ gq ∧ g2 ≠ gq ∧ gx ≤ g1 ∧ gx ≤ g2 ∧ lx ≤ cx ∧ cx ≤ RX.length ∧ RX.length ≤ 60 ∧ ly ≤ cy ∧ cy ≤ RY.length ∧ RY.length ≤ 60 ∧ Digs RX ∧ Digs RY ∧ RX.take lx = dig X ∧ RY.take ly = dig Y ∧ lx ≤ n ∧ ly ≤ n ∧ Z.length = n ∧
            Whole wr gx g1 3 (nats RX) ∧ Whole wr gx g2 3 (nats RY) ∧ Whole wr gx gq 3 (nats Z) ∧ Nat.gcd X Y = Nat.gcd (val ds) (val es) ∧ Below w.heap.size w wr) (fun _ b wr => rowVal wr b)
        case atStart =>
          refine ⟨val ds, val es, gx, gy, n, n, m, m, ds, es, List.replicate n 0, rfl, rfl, hgne.1, hgne.2.1, hgne.2.2, Nat.le_refl _, ?_, Nat.le_refl _, by rw [HL.out]; exact Nat.le_refl _, by rw [HL.out]; omega, Nat.le_refl _, by rw [HM.out]; exact Nat.le_refl _, by rw [HM.out]; omega, HX.out.1, HY.out.1, ?_, ?_, by omega, by omega, by simp, ?_, ?_, ?_, rfl, HB5.out⟩
          · have := HWY5.out.lt.1; rw [HGX.out, HGY.out] at this; exact this
          · rw [List.take_of_length_le (by rw [HL.out]; exact Nat.le_refl _), dig_of_can HX.out]
          · rw [List.take_of_length_le (by rw [HM.out]; exact Nat.le_refl _), dig_of_can HY.out]
          · have h := HWX5.out; rw [HGX.out] at h; exact h
          · have h := HWY5.out; rw [HGX.out, HGY.out] at h; exact h
          · have h := HWQ.out; rw [HGX.out, HGQ.out] at h; exact h
        case round =>
          obtain ⟨X, Y, g1, g2, lx, cx, ly, cy, RX, RY, Z, rfl, rfl, h12, h1q, h2q, hgx1, hgx2, hlx, hcx, hrx, hly, hcy, hry, hdx, hdy, htx, hty, hlxq, hlyq, hzl, hwx, hwy, hwq, hg, hb⟩ := hrel
          have HDX := Lib.hid hdx
          have HDY := Lib.hid hdy
          have HTX := Lib.hid htx
          have HTY := Lib.hid hty
          have HWX := Lib.hid hwx
          have HWY := Lib.hid hwy
          have HWQ := Lib.hid hwq
          have HG := Lib.hid hg
          have HBr := Lib.hid hb
          clear hdx hdy htx hty hwx hwy hwq hg hb
          by_cases h0 : ly = 0
          · subst h0
            have hY0 : Y = 0 := by
              have h := HTY.out
              rw [List.take_zero] at h
              exact dig_nil_iff.mp h.symm
            have HY0 := Lib.hid hY0
            clear hY0
            go_wp2
            go_ret
            have hg := HG.out
            rw [HY0.out, Nat.gcd_zero_right] at hg
            refine ⟨_, rfl, ?_, HBr.out⟩
            rw [HEQ.out, ← hg, ← HTX.out]
            have h := (OwnV.of_whole HWX.out).cut (m := lx) (c2 := cx) (by rw [nats_len]; omega) hlx (by rw [nats_len]; exact hcx)
            rw [nats_take] at h
            exact h.based (by have := HB2.out.size; have := HGX.out; omega)
          · have hrowY : VRow wr (some ⟨g2, 0, none⟩) ly (nats (dig Y)) := by
              have h := HWY.out.row 0 ly (by rw [nats_len]; omega)
              rw [List.drop_zero, nats_take, HTY.out] at h
              exact h
            have hRV : rowVal wr (.slice (some ⟨g2, 0, none⟩) ly cy) = Y := by rw [rowVal_of hrowY, val_dig]
            have hyp : 0 < Y := by
              rcases Nat.eq_zero_or_pos Y with h | h
              · exfalso
                apply h0
                have e := congrArg List.length HTY.out
                rw [h, dig_zero, List.length_take] at e
                simp at e
                rcases e with e | e
                · exact e
                · rw [e] at hcy; simp at hcy; omega
              · exact h
            have HROW := Lib.hid hrowY
            have HRV := Lib.hid hRV
            clear hrowY hRV
            have hlz : (0 : Int) < (ly : Int) := by omega
            go_wp2_with fail
            refine (reduceRow_any g1 gq lx cx n n ly cy gx RX Z (dig Y) _ _ HWX.out HWQ.out HROW.out (fun a ha => by obtain rfl : (⟨g2, 0, none⟩ : Addr) = a := Option.some.inj ha; exact ⟨fun e => h12 e.symm, h2q⟩) h1q HDX.out (by rw [HTX.out]; exact dig_can X) (dig_can Y) hlx hcx (by omega) hlxq (by rw [hzl]; exact Nat.le_refl _) (by omega) (by omega)).mono ?_
            rintro e w6 ⟨r, rc, R, QS, rfl, hr1, hr2, hr3, hr4, hr5, hr6, hr7, hz5, hq1, hq2, hq3, hlv⟩
            rw [HTX.out, val_dig, val_dig] at hr1 hr6
            have HWY6 := Lib.hid (HWY.out.leaves hlv (fun e => h12 e.symm) h2q)
            have HB6 := Lib.hid (hlv.below HBr.out HBr.out.size (by have := HB2.out.size; have := HGX.out; omega) (by have := HB2.out.size; have := HGX.out; have := HWQ.out.lt.1; omega))
            have HR1 := Lib.hid hr1
            have HR5 := Lib.hid hr5
            have HR6 := Lib.hid hr6
            have HR7 := Lib.hid hr7
            have HZ5 := Lib.hid hz5
            have hrl : r ≤ ly := by
              have h1 := congrArg List.length HTY.out
              rw [List.length_take, Nat.min_eq_left (by omega)] at h1
              rw [hr1, h1]
              exact canon_len (dig_can _) (dig_digs _) (by rw [val_dig, val_dig]; exact Nat.le_of_lt (Nat.mod_lt _ hyp))
            have hzl2 : (qrow Z QS 0).length = n := by rw [qrow_len _ _ _ (by omega)]; exact hzl
            have HZL2 := Lib.hid hzl2
            clear hr1 hr5 hr6 hr7 hz5 hq2 hq3 hlv hzl2
            go_wp2
            refine ⟨⟨Y, X % Y, g2, g1, ly, cy, r, rc, RY, R, qrow Z QS 0, rfl, rfl, fun e => h12 e.symm, h2q, h1q, hgx2, hgx1, hly, hcy, hry, hr2, hr3, by omega, HDY.out, HR5.out, HTY.out, HR6.out, hlyq, by omega, HZL2.out, HWY6.out, HR7.out, HZ5.out, by rw [gcd_step]; exact HG.out, HB6.out⟩, ?_⟩
            rw [HRV.out]
            have hrow2 : VRow w6 (some ⟨g1, 0, none⟩) r (nats (dig (X % Y))) := by
              have h := HR7.out.row 0 r (by rw [nats_len]; omega)
              rw [List.drop_zero, nats_take, HR6.out] at h
              exact h
            rw [rowVal_of hrow2, val_dig]
            exact Nat.mod_lt _ hyp
end Go.Proofs.Ytdilbhkdkppodaa
