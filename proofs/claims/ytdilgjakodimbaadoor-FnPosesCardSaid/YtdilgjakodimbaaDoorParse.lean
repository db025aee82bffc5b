/- The contract of spec.ParseInt. Condition: strings of at most 2^20 bytes. -/
import Derived.Test.YtdilgjakodimbaaDoorStrconv
namespace Go.Proofs.YtdilgjakodimbaaDoor
open Go.RowKit Nu Wm
set_option linter.unusedVariables false

theorem dg_at (t : ByteArray) (k : Nat) (h : k < t.size) (hd : digs t = true) : 48 ≤ t[k].toNat ∧ t[k].toNat ≤ 57 := by
  have h1 : digAll t.data.toList = true := by
    unfold digs at hd
    simp only [Bool.and_eq_true] at hd
    exact hd.1
  have h2 : t[k] ∈ t.data.toList := by
    have : t[k] = t.data.toList[k]'(by simpa using h) := rfl
    rw [this]
    exact List.getElem_mem _
  have h3 := List.all_eq_true.1 h1 _ h2
  simp only [Wm.dg, Bool.and_eq_true, decide_eq_true_eq] at h3
  exact h3
theorem min_div (d : Int) (h0 : 0 ≤ d) (h1 : d ≤ 9) : (-9223372036854775808 + d).tdiv 10 = -((9223372036854775808 - d) / 10) := by
  rw [show -9223372036854775808 + d = -(9223372036854775808 - d) by omega, Int.neg_tdiv, Int.tdiv_eq_ediv_of_nonneg (by omega)]
theorem num_step (z d : Int) (h0 : 0 ≤ d) (h1 : d ≤ 9) (hz : z ≤ 0) (h : (-9223372036854775808 + d).tdiv 10 ≤ z) :
    wrap64 (wrap64 (z * 10) - d) = z * 10 - d ∧ -9223372036854775808 ≤ z * 10 - d ∧ z * 10 - d ≤ 0 := by
  rw [min_div d h0 h1] at h
  have h2 : -9223372036854775808 ≤ z * 10 - d := by omega
  rw [IntWalk.wrap64_in (z * 10) (by omega), IntWalk.wrap64_in (z * 10 - d) (by omega)]
  exact ⟨rfl, h2, by omega⟩
theorem num_fits (z d : Int) (h0 : 0 ≤ d) (h1 : d ≤ 9) (h : -9223372036854775808 ≤ z * 10 - d) : (-9223372036854775808 + d).tdiv 10 ≤ z := by
  rw [min_div d h0 h1]
  omega
theorem val_len (u : Nat) (t : ByteArray) (ht : t.data.toList = Lib.decDigits u) : t.size = (Lib.decDigits u).length := by
  rw [← ht]; simp
theorem val_step (u : Nat) (t : ByteArray) (ht : t.data.toList = Lib.decDigits u) (k : Nat) (h : k < t.size) : val 0 ((Lib.decDigits u).take (k + 1)) = val 0 ((Lib.decDigits u).take k) * 10 + (t[k].toNat - 48) := by
  rw [← ht, take_snoc t k h, val_append]
  rfl
theorem format_at {n : Int} {s : ByteArray} (hs : itoaB n = s) (K : Int) (hK : K = n) (w : World) (h0 : -9223372036854775808 ≤ n) (h1 : n ≤ 9223372036854775807) :
    Calls Tryd.prog 65 #[.int .i64 K] w fun e w' => e = .returned (.string s) ∧ Below w.heap.size w w' := by
  subst hK
  rw [← hs]
  exact format_any _ w h0 h1

set_option maxHeartbeats 1000000 in
theorem parse_no_neg (s t : ByteArray) (w : World) (hs : s.size ≤ 1048576) (hn : ¬ IsNum s) (h0 : 0 < s.size) (h45 : ((s[0].toNat : Int) == 45) = true) (ht : s.extract 1 s.size = t) (hts : t.size ≤ 1048576) : Calls Tryd.prog 67 #[.string s] w (Parsed s w) := by
  have HN := Lib.hid hn
  clear hn
  by_cases hd : digs t = true
  · by_cases hl : 19 < t.size
    · go_enter Tryd.func67, Tryd.ntmps67
      go_wp2_with fail
      refine (isDigits_spec _ _ (by unfold maxLen; omega)).mono ?_
      rintro e w' ⟨rfl, rfl⟩
      go_wp2
      go_ret2
      exact ⟨.inr ⟨HN.out, rfl⟩, Below.refl _ _⟩
    · have HDG := Lib.hid (fun k h => dg_at t k h hd)
      go_enter Tryd.func67, Tryd.ntmps67
      go_wp2_with fail
      refine (isDigits_spec _ _ (by unfold maxLen; omega)).mono ?_
      rintro e w' ⟨rfl, rfl⟩
      go_wp2
      go_loop [6, 7] (fun n i => ∃ (k : Nat) (z : Int), k ≤ t.size ∧ i = .int .i64 k ∧ n = .int .i64 z ∧ -9223372036854775808 ≤ z ∧ z ≤ 0) (fun _ i => t.size - (intOf i).toNat)
      case atStart => exact ⟨0, 0, Nat.zero_le _, rfl, rfl, by omega, by omega⟩
      case round =>
        obtain ⟨k, z, hk, rfl, rfl, hz1, hz2⟩ := hrel
        by_cases hlt : k < t.size
        · have hc := HDG.out k hlt
          go_wp2
          · go_ret2
            exact ⟨.inr ⟨HN.out, rfl⟩, Below.refl _ _⟩
          · have hq : (-9223372036854775808 + ((t[k].toNat : Int) - 48)).tdiv 10 ≤ z := by assumption
            obtain ⟨e1, e2, e3⟩ := num_step z _ (by omega) (by omega) hz2 hq
            refine ⟨⟨k + 1, _, by omega, by go_num, rfl, ?_, ?_⟩, by simp [intOf]; omega⟩
            · rw [e1]; exact e2
            · rw [e1]; exact e3
        · clear hd
          obtain ⟨hne1, hne2⟩ := str_ne (itoaB z) s (fun h => HN.out ⟨z, by omega, by omega, h.symm⟩)
          go_wp2_with fail
          refine (format_any _ _ (by omega) (by omega)).mono ?_
          rintro e w1 ⟨rfl, hb⟩
          have HB := Lib.hid hb
          clear hb
          go_wp2
          go_ret2
          exact ⟨.inr ⟨HN.out, rfl⟩, HB.out⟩
  · have hdf : digs t = false := by simpa using hd
    clear hd
    go_enter Tryd.func67, Tryd.ntmps67
    go_wp2_with fail
    refine (isDigits_spec _ _ (by unfold maxLen; omega)).mono ?_
    rintro e w' ⟨rfl, rfl⟩
    go_wp2
    go_ret2
    exact ⟨.inr ⟨HN.out, rfl⟩, Below.refl _ _⟩

set_option maxHeartbeats 1000000 in
theorem parse_no_pos (t : ByteArray) (w : World) (hts : t.size ≤ 1048576) (hn : ¬ IsNum t) (h0 : 0 < t.size) (h45 : ((t[0].toNat : Int) == 45) = false) : Calls Tryd.prog 67 #[.string t] w (Parsed t w) := by
  have HN := Lib.hid hn
  clear hn
  by_cases hd : digs t = true
  · by_cases hl : 19 < t.size
    · go_enter Tryd.func67, Tryd.ntmps67
      go_wp2_with fail
      refine (isDigits_spec _ _ (by unfold maxLen; omega)).mono ?_
      rintro e w' ⟨rfl, rfl⟩
      go_wp2
      go_ret2
      exact ⟨.inr ⟨HN.out, rfl⟩, Below.refl _ _⟩
    · have HDG := Lib.hid (fun k h => dg_at t k h hd)
      go_enter Tryd.func67, Tryd.ntmps67
      go_wp2_with fail
      refine (isDigits_spec _ _ (by unfold maxLen; omega)).mono ?_
      rintro e w' ⟨rfl, rfl⟩
      go_wp2
      go_loop [6, 7] (fun n i => ∃ (k : Nat) (z : Int), k ≤ t.size ∧ i = .int .i64 k ∧ n = .int .i64 z ∧ -9223372036854775808 ≤ z ∧ z ≤ 0) (fun _ i => t.size - (intOf i).toNat)
      case atStart => exact ⟨0, 0, Nat.zero_le _, rfl, rfl, by omega, by omega⟩
      case round =>
        obtain ⟨k, z, hk, rfl, rfl, hz1, hz2⟩ := hrel
        by_cases hlt : k < t.size
        · have hc := HDG.out k hlt
          go_wp2
          · go_ret2
            exact ⟨.inr ⟨HN.out, rfl⟩, Below.refl _ _⟩
          · have hq : (-9223372036854775808 + ((t[k].toNat : Int) - 48)).tdiv 10 ≤ z := by assumption
            obtain ⟨e1, e2, e3⟩ := num_step z _ (by omega) (by omega) hz2 hq
            refine ⟨⟨k + 1, _, by omega, by go_num, rfl, ?_, ?_⟩, by simp [intOf]; omega⟩
            · rw [e1]; exact e2
            · rw [e1]; exact e3
        · clear hd
          by_cases hmin : z = -9223372036854775808
          · have hm1 : (z == -9223372036854775808) = true := by rw [hmin]; rfl
            clear hmin
            go_wp2_with fail
            go_ret2
            exact ⟨.inr ⟨HN.out, rfl⟩, Below.refl _ _⟩
          · have hm1 : (z == -9223372036854775808) = false := beq_false_of_ne hmin
            have hzz : -9223372036854775808 < z := by omega
            clear hmin
            obtain ⟨hne1, hne2⟩ := str_ne (itoaB (-z)) t (fun h => HN.out ⟨-z, by omega, by omega, h.symm⟩)
            go_wp2_with fail
            refine (format_any _ _ (by omega) (by omega)).mono ?_
            rintro e w1 ⟨rfl, hb⟩
            have HB := Lib.hid hb
            clear hb
            go_wp2
            go_ret2
            exact ⟨.inr ⟨HN.out, rfl⟩, HB.out⟩
  · have hdf : digs t = false := by simpa using hd
    clear hd
    go_enter Tryd.func67, Tryd.ntmps67
    go_wp2_with fail
    refine (isDigits_spec _ _ (by unfold maxLen; omega)).mono ?_
    rintro e w' ⟨rfl, rfl⟩
    go_wp2
    go_ret2
    exact ⟨.inr ⟨HN.out, rfl⟩, Below.refl _ _⟩

set_option maxHeartbeats 1000000 in
theorem parse_no_empty (t : ByteArray) (w : World) (hn : ¬ IsNum t) (h0 : t.size = 0) : Calls Tryd.prog 67 #[.string t] w (Parsed t w) := by
  have HN := Lib.hid hn
  have hd : digs t = false := by unfold digs; simp [h0]
  have h0' : decide (0 < t.size) = false := by simp [h0]
  have hlt0 : ¬ 0 < t.size := by omega
  have hm : t.size ≤ 1048576 := by omega
  clear hn h0
  go_enter Tryd.func67, Tryd.ntmps67
  go_wp2_with fail
  refine (isDigits_spec _ _ (by unfold maxLen; omega)).mono ?_
  rintro e w' ⟨rfl, rfl⟩
  go_wp2
  go_ret2
  exact ⟨.inr ⟨HN.out, rfl⟩, Below.refl _ _⟩

set_option maxHeartbeats 1000000 in
theorem parse_yes_neg (u : Nat) (t : ByteArray) (w : World) (h1 : 1 ≤ u) (hu : u ≤ 9223372036854775808) (HT : Hid (t.data.toList = Lib.decDigits u)) : Calls Tryd.prog 67 #[.string (itoaB (-(u : Int)))] w (Parsed (itoaB (-(u : Int))) w) := by
  obtain ⟨s, hs⟩ : ∃ s, itoaB (-(u : Int)) = s := ⟨_, rfl⟩
  have hsd : s.data.toList = 45 :: Lib.decDigits u := by rw [← hs, itoaB_data, itoa_ng u h1]
  have hl := val_len u t HT.out
  have hl19 := dec_len19 u hu
  have hne := dec_ne u
  have hsl : s.size = t.size + 1 := by
    have e : s.data.toList.length = s.size := by simp
    rw [hsd, List.length_cons, ← hl] at e
    omega
  have h0 : 0 < s.size := by omega
  have h45 : ((s[0].toNat : Int) == 45) = true := by
    have e : s[0] = 45 := by
      have e1 : s[0] = s.data.toList[0]'(by simpa using h0) := rfl
      rw [e1]
      simp [hsd]
    rw [e]; rfl
  have hts : t.size ≤ 19 := by omega
  have hx : s.extract 1 s.size = t := by
    apply bytes_ext
    rw [Lib.extract_data, hsd, HT.out]
    simp only [List.drop_succ_cons, List.drop_zero]
    exact List.take_of_length_le (by omega)
  have hd : digs t = true := by
    unfold digs
    rw [HT.out, dec_dg]
    have : t.size ≠ 0 := fun e => hne (List.eq_nil_of_length_eq_zero (by omega))
    simp; omega
  have HDG := Lib.hid (fun k h => dg_at t k h hd)
  have HS := Lib.hid hs
  have hss : s.size ≤ 1048576 := by omega
  rw [hs]
  clear hs hsd hl hl19 hne hsl
  go_enter Tryd.func67, Tryd.ntmps67
  go_wp2_with fail
  refine (isDigits_spec _ _ (by unfold maxLen; omega)).mono ?_
  rintro e w' ⟨rfl, rfl⟩
  go_wp2
  go_loop [6, 7] (fun n i => ∃ (k : Nat) (z : Int), k ≤ t.size ∧ i = .int .i64 k ∧ n = .int .i64 z ∧ z = -((val 0 ((Lib.decDigits u).take k) : Nat) : Int)) (fun _ i => t.size - (intOf i).toNat)
  case atStart => exact ⟨0, 0, Nat.zero_le _, rfl, rfl, by simp [val]⟩
  case round =>
    obtain ⟨k, z, hk, rfl, rfl, hze⟩ := hrel
    have hvl := val_take_le (Lib.decDigits u) k
    rw [dec_val] at hvl
    by_cases hlt : k < t.size
    · have hc := HDG.out k hlt
      have hvl2 := val_take_le (Lib.decDigits u) (k + 1)
      rw [dec_val] at hvl2
      have hst := val_step u t HT.out k hlt
      have hz1 : -9223372036854775808 ≤ z := by omega
      have hz2 : z ≤ 0 := by omega
      have hq := num_fits z ((t[k].toNat : Int) - 48) (by omega) (by omega) (by omega)
      obtain ⟨e1, e2, e3⟩ := num_step z ((t[k].toNat : Int) - 48) (by omega) (by omega) hz2 hq
      have HE := Lib.hid (show z * 10 - ((t[k].toNat : Int) - 48) = -((val 0 ((Lib.decDigits u).take (k + 1)) : Nat) : Int) by omega)
      have HW := Lib.hid e1
      clear hvl hvl2 hst hze e1
      have hq' : ¬ z < (-9223372036854775808 + ((t[k].toNat : Int) - 48)).tdiv 10 := by omega
      go_wp2
      refine ⟨⟨k + 1, _, by omega, by go_num, rfl, ?_⟩, by simp [intOf]; omega⟩
      first
        | rw [HW.out, HE.out]
        | exact HE.out
    · have hzv : z = -((val 0 (Lib.decDigits u) : Nat) : Int) := by
        rw [hze, List.take_of_length_le (by have := val_len u t HT.out; omega)]
      clear hvl
      obtain rfl : z = -(u : Int) := by rw [hzv, dec_val]
      clear hze hzv
      go_wp2_with fail
      refine (format_at HS.out _ (by omega) _ (by omega) (by omega)).mono ?_
      rintro e w1 ⟨rfl, hb⟩
      have HB := Lib.hid hb
      clear hb
      go_wp2
      go_ret2
      exact ⟨.inl ⟨-(u : Int), by omega, by omega, HS.out.symm, rfl⟩, HB.out⟩

set_option maxHeartbeats 1000000 in
theorem parse_yes_pos (u : Nat) (t : ByteArray) (w : World) (hu : u ≤ 9223372036854775807) (HT : Hid (t.data.toList = Lib.decDigits u)) (HS : Hid (itoaB (u : Int) = t)) : Calls Tryd.prog 67 #[.string t] w (Parsed t w) := by
  have hl := val_len u t HT.out
  have hl19 := dec_len19 u (by omega)
  have hne := dec_ne u
  have h0 : 0 < t.size := by
    rcases Nat.eq_zero_or_pos t.size with h | h
    · exact absurd (List.eq_nil_of_length_eq_zero (by omega)) hne
    · exact h
  have hts : t.size ≤ 19 := by omega
  have hd : digs t = true := by
    unfold digs
    rw [HT.out, dec_dg]
    simp; omega
  have HDG := Lib.hid (fun k h => dg_at t k h hd)
  have h45 : ((t[0].toNat : Int) == 45) = false := by
    have := dg_at t 0 h0 hd
    exact beq_false_of_ne (by omega)
  clear hl hl19 hne
  go_enter Tryd.func67, Tryd.ntmps67
  go_wp2_with fail
  refine (isDigits_spec _ _ (by unfold maxLen; omega)).mono ?_
  rintro e w' ⟨rfl, rfl⟩
  go_wp2
  go_loop [6, 7] (fun n i => ∃ (k : Nat) (z : Int), k ≤ t.size ∧ i = .int .i64 k ∧ n = .int .i64 z ∧ z = -((val 0 ((Lib.decDigits u).take k) : Nat) : Int)) (fun _ i => t.size - (intOf i).toNat)
  case atStart => exact ⟨0, 0, Nat.zero_le _, rfl, rfl, by simp [val]⟩
  case round =>
    obtain ⟨k, z, hk, rfl, rfl, hze⟩ := hrel
    have hvl := val_take_le (Lib.decDigits u) k
    rw [dec_val] at hvl
    by_cases hlt : k < t.size
    · have hc := HDG.out k hlt
      have hvl2 := val_take_le (Lib.decDigits u) (k + 1)
      rw [dec_val] at hvl2
      have hst := val_step u t HT.out k hlt
      have hz1 : -9223372036854775808 ≤ z := by omega
      have hz2 : z ≤ 0 := by omega
      have hq := num_fits z ((t[k].toNat : Int) - 48) (by omega) (by omega) (by omega)
      obtain ⟨e1, e2, e3⟩ := num_step z ((t[k].toNat : Int) - 48) (by omega) (by omega) hz2 hq
      have HE := Lib.hid (show z * 10 - ((t[k].toNat : Int) - 48) = -((val 0 ((Lib.decDigits u).take (k + 1)) : Nat) : Int) by omega)
      have HW := Lib.hid e1
      clear hvl hvl2 hst hze e1
      have hq' : ¬ z < (-9223372036854775808 + ((t[k].toNat : Int) - 48)).tdiv 10 := by omega
      go_wp2
      refine ⟨⟨k + 1, _, by omega, by go_num, rfl, ?_⟩, by simp [intOf]; omega⟩
      first
        | rw [HW.out, HE.out]
        | exact HE.out
    · have hzv : z = -((val 0 (Lib.decDigits u) : Nat) : Int) := by
        rw [hze, List.take_of_length_le (by have := val_len u t HT.out; omega)]
      clear hvl
      obtain rfl : z = -(u : Int) := by rw [hzv, dec_val]
      clear hze hzv
      have hm1 : ((-(u : Int)) == -9223372036854775808) = false := beq_false_of_ne (by omega)
      go_wp2_with fail
      refine (format_at HS.out _ (by omega) _ (by omega) (by omega)).mono ?_
      rintro e w1 ⟨rfl, hb⟩
      have HB := Lib.hid hb
      clear hb
      go_wp2
      go_ret2
      exact ⟨.inl ⟨(u : Int), by omega, by omega, HS.out.symm, rfl⟩, HB.out⟩

theorem parseInt_spec (s : ByteArray) (w : World) (hs : s.size ≤ 1048576) : Calls Tryd.prog 67 #[.string s] w (Parsed s w) := by
  by_cases hn : IsNum s
  · obtain ⟨n, h0, h1, rfl⟩ := hn
    by_cases hneg : n < 0
    · obtain ⟨u, rfl⟩ : ∃ u : Nat, n = -(u : Int) := ⟨n.natAbs, by omega⟩
      exact parse_yes_neg u ⟨(Lib.decDigits u).toArray⟩ w (by omega) (by omega) (by simp [Hid])
    · obtain ⟨u, rfl⟩ : ∃ u : Nat, n = (u : Int) := ⟨n.toNat, by omega⟩
      exact parse_yes_pos u _ w (by omega) (by unfold Hid; rw [itoaB_data, itoa_nn]) rfl
  · by_cases h0 : 0 < s.size
    · by_cases h45 : s[0] = 45
      · exact parse_no_neg s _ w hs hn h0 (by rw [h45]; rfl) rfl (by simp; omega)
      · exact parse_no_pos s w hs hn h0 (beq_false_of_ne (fun e => h45 (UInt8.toNat_inj.1 (by show _ = 45; omega))))
    · exact parse_no_empty s w hn (by omega)
end Go.Proofs.YtdilgjakodimbaaDoor
