/- Contracts of FormatNat, of the model and of the program. Condition: the library's table of powers is laid. -/
import Derived.Test.YtbikkbamcleinaaDoorProg
import Derived.Test.YtbikkbamcleinaaDoorB2
import Derived.Test.YtbikkbamcleinaaDoorPadImpl
import Derived.Test.YtbikkbamcleinaaDoorStrconv
import Derived.Test.YtbikkbamcleinaaDoorBuilder
namespace Go.Proofs.YtbikkbamcleinaaDoor
open Go.RowKit Nt
set_option linter.unusedVariables false

/-- A limb inside a text: nine digits. -/
def pad9 (d : Nat) : List UInt8 := (padz (Nu.itoaB d) 9).data.toList
/-- The limbs ds (the low one first) as text, each of nine digits. -/
def low : List Nat → List UInt8
  | [] => []
  | d :: ds => low ds ++ pad9 d
/-- The text of a number. -/
def natText (ds : List Nat) : ByteArray := match ds.getLast? with
  | none => ⟨#[48]⟩
  | some d => ⟨(Lib.itoa (d : Int) ++ low ds.dropLast).toArray⟩
/-- What FormatNat answers. -/
def fmtN (xs : List Int) : ByteArray := if okI xs = true then natText (toN xs) else ⟨#[]⟩
theorem itoa9 (d : Nat) (h : d < 1000000000) : (Nu.itoaB d).size ≤ 9 := by
  have h1 := Nu.dec_len 8 d (by omega)
  have e : (Nu.itoaB d).size = (Lib.decDigits d).length := by
    have : (Nu.itoaB d).size = (Nu.itoaB d).data.toList.length := by simp
    rw [this, Nu.itoaB_data, itoa_nn]
  omega
theorem pad9_len (d : Nat) (h : d < 1000000000) : (pad9 d).length = 9 := by
  have h1 := itoa9 d h
  have e2 : (Nu.itoaB (d : Int)).data.toList.length = (Nu.itoaB d).size := by simp
  unfold pad9 padz
  rw [if_neg (by omega)]
  simp only [List.length_append, List.length_replicate, e2]
  omega
theorem pad9_size (d : Nat) (h : d < 1000000000) : (padz (Nu.itoaB d) 9).size = 9 := by
  have h1 := pad9_len d h
  have : (padz (Nu.itoaB d) 9).size = (padz (Nu.itoaB d) 9).data.toList.length := by simp
  rw [this]; exact h1
theorem low_len (ds : List Nat) (h : Digs ds) : (low ds).length = 9 * ds.length := by
  induction ds with
  | nil => rfl
  | cons d ds ih => rw [low, List.length_append, ih h.tail, pad9_len d h.head, List.length_cons]; omega
theorem natText_at (ds : List Nat) (k : Nat) (hk : ds.length = k + 1) : natText ds = ⟨(Lib.itoa ((ds[k]'(by omega) : Nat) : Int) ++ low (ds.take k)).toArray⟩ := by
  have hg : ds.getLast? = some (ds[k]'(by omega)) := by
    rw [List.getLast?_eq_getElem?]
    have e : ds.length - 1 = k := by omega
    rw [e, List.getElem?_eq_getElem (by omega)]
  have hd : ds.dropLast = ds.take k := by
    rw [List.dropLast_eq_take]
    congr 1
    omega
  unfold natText
  rw [hg, hd]
theorem low_step (ds : List Nat) (k i : Nat) (hk : ds.length = k + 1) (hi : i < k) : low ((ds.take k).drop i) = low ((ds.take k).drop (i + 1)) ++ pad9 (ds[i]'(by omega)) := by
  rw [List.drop_eq_getElem_cons (by simp; omega), low, List.getElem_take]
theorem fmt_bad {xs : List Int} (h : okI xs = false) : fmtN xs = ⟨#[]⟩ := by simp [fmtN, h]
theorem fmt_ok {xs : List Int} (h : okI xs = true) : fmtN xs = natText (toN xs) := by simp [fmtN, h]

set_option maxHeartbeats 2000000 in
theorem formatNat_spec (A : Option Addr) (n c : Nat) (xs : List Int) (w : World) (hA : VRow w A n (ints xs)) (hn : n ≤ maxLen) :
    Calls Tryd.prog 24 #[.slice A n c] w fun e w' => e = .returned (.string (fmtN xs)) ∧ Below w.heap.size w w' := by
  have HA := Lib.hid hA
  clear hA
  go_enter Tryd.func24, Tryd.ntmps24
  go_wp2_with fail
  refine (natOk_spec _ _ _ xs _ HA.out hn).mono ?_
  rintro e w1 ⟨rfl, hb⟩
  have HB1 := Lib.hid hb
  clear hb
  cases hx : okI xs with
  | false =>
    have HE := Lib.hid (fmt_bad hx)
    clear hx
    go_wp2
    go_ret
    exact ⟨ret_str HE.out.symm, HB1.out⟩
  | true =>
    obtain ⟨hxn, hxc, hxl⟩ := okI_nats hx
    have hA2 := HA.out
    rw [hxn] at hA2
    have HE := Lib.hid (fmt_ok hx)
    clear hxn hx HA
    generalize toN xs = ds at *
    have HL := Lib.hid (show ds.length = n by simpa [nats_len] using hA2.1)
    have hn60 : n ≤ 60 := by have := HL.out; omega
    have HX := Lib.hid hxc
    have HA2 := Lib.hid hA2
    clear hxc hA2 hxl hn
    by_cases h0 : n = 0
    · subst h0
      have HN := Lib.hid (show natText ds = ⟨#[48]⟩ by rw [List.eq_nil_of_length_eq_zero HL.out]; rfl)
      go_wp2
      go_ret
      exact ⟨ret_str (by rw [HE.out, HN.out]), HB1.out⟩
    obtain ⟨k, rfl⟩ : ∃ k, n = k + 1 := ⟨n - 1, by omega⟩
    have h0b : (((k + 1 : Nat) : Int) == 0) = false := beq_eq_false_iff_ne.mpr (by omega)
    have h0c : (((k : Int) + 1) == 0) = false := beq_eq_false_iff_ne.mpr (by omega)
    obtain ⟨ga, oa, rfl, hga, hca⟩ := (HA2.out.below HB1.out (Nat.le_refl _)).at_ (show k < k + 1 by omega)
    rw [nats_get] at hca
    have hkl : k < ds.length := by have := HL.out; omega
    have HNT := Lib.hid (natText_at ds k HL.out)
    obtain ⟨x, hx⟩ : ∃ x, ds[k] = x := ⟨_, rfl⟩
    have hxb : x < 1000000000 := hx ▸ HX.out.1.get hkl
    rw [hx] at hca HNT
    clear hx
    have hs1 : IntKind.i64.wrap ((k : Int) + 1 - 1) = (k : Int) := by rw [IntKind.wrap_i64]; omega
    have hs2 : IntKind.i64.wrap ((k : Int) + 1 - 2) = (k : Int) - 1 := by rw [IntKind.wrap_i64]; omega
    go_wp2_with fail
    refine (format_any (x : Int) _ (by omega) (by omega)).mono ?_
    rintro e w2 ⟨rfl, hb2⟩
    have HB2 := Lib.hid (HB1.out.trans (hb2.mono HB1.out.size))
    have HT := Lib.hid (show (Nu.itoaB (x : Int)).data.toList = Lib.itoa (x : Int) from Nu.itoaB_data _)
    have hts := itoa9 x hxb
    obtain ⟨t, ht⟩ : ∃ t, Nu.itoaB (x : Int) = t := ⟨_, rfl⟩
    rw [ht] at HT hts ⊢
    clear hb2 ht hca hga
    go_wp2
    go_loopw [3, 4] (fun v i wr => ∃ (j : Nat) (o : ByteArray), j ≤ k ∧ i = .int .i64 ((j : Int) - 1) ∧ v = .string o ∧ o.data.toList = Lib.itoa (x : Int) ++ low ((ds.take k).drop j) ∧ o.size ≤ 9 + 9 * (k - j) ∧ Below w.heap.size w wr) (fun _ i _ => (intOf i + 1).toNat)
    case atStart => exact ⟨k, t, Nat.le_refl _, by go_num, rfl, by rw [List.drop_of_length_le (by simp; omega), HT.out]; simp [low], by omega, HB2.out⟩
    case round =>
      obtain ⟨j, o, hj, rfl, rfl, ho, hos, hb⟩ := hrel
      have HO := Lib.hid ho
      have HBr := Lib.hid hb
      clear ho hb
      by_cases hj0 : j = 0
      · subst hj0
        go_wp2
        go_ret
        refine ⟨ret_str ?_, HBr.out⟩
        rw [HE.out, HNT.out]
        apply bytes_ext
        rw [HO.out, List.drop_zero]
      · obtain ⟨i, rfl⟩ : ∃ i, j = i + 1 := ⟨j - 1, by omega⟩
        have hwi : ((i + 1 : Nat) : Int) - 1 = (i : Int) := by omega
        rw [hwi]
        clear hwi
        obtain ⟨gi, oi, ei, hgi, hci⟩ := (HA2.out.below HBr.out (Nat.le_refl _)).at_ (show i < k + 1 by omega)
        obtain ⟨rfl, rfl⟩ : ga = gi ∧ oa = oi := by simpa using ei
        rw [nats_get] at hci
        have hil : i < ds.length := by have := HL.out; omega
        have HLS := Lib.hid (low_step ds k i HL.out (by omega))
        obtain ⟨y, hy⟩ : ∃ y, ds[i] = y := ⟨_, rfl⟩
        have hyb : y < 1000000000 := hy ▸ HX.out.1.get hil
        rw [hy] at hci HLS
        clear hy ei
        have hik : i < k + 1 := by omega
        have hikz : (i : Int) < (k : Int) + 1 := by omega
        go_wp2_with fail
        refine (format_any (y : Int) _ (by omega) (by omega)).mono ?_
        rintro e w4 ⟨rfl, hb4⟩
        have HB4 := Lib.hid (HBr.out.trans (hb4.mono HBr.out.size))
        have hp9 := pad9_size y hyb
        have HP9 := Lib.hid (show (padz (Nu.itoaB y) 9).data.toList = pad9 y from rfl)
        have h9 := itoa9 y hyb
        clear hb4
        go_wp2_with fail
        refine (padZeros_spec _ 9 _ (by omega) (by omega) (by omega)).mono ?_
        rintro e w5 ⟨rfl, rfl⟩
        obtain ⟨p, hp⟩ : ∃ p, padz (Nu.itoaB (y : Int)) 9 = p := ⟨_, rfl⟩
        rw [hp] at hp9 HP9 ⊢
        clear hp
        go_wp2
        refine ⟨⟨i, o ++ p, by omega, by go_num, rfl, ?_, ?_, HB4.out⟩, by simp [intOf]⟩
        · rw [app_data, HO.out, HP9.out, HLS.out, List.append_assoc]
        · rw [ByteArray.size_append]; omega
set_option maxHeartbeats 2000000 in
theorem formatNat_impl (A : Option Addr) (n c : Nat) (xs : List Int) (w : World) (hA : VRow w A n (ints xs)) (hn : n ≤ maxLen) (hlaid : Laid1 w) :
    Calls Tryd.prog 29 #[.slice A n c] w fun e w' => e = .returned (.string (fmtN xs)) ∧ Below w.heap.size w w' := by
  have HA := Lib.hid hA
  have HLD := Lib.hid hlaid
  clear hA hlaid
  go_enter Tryd.func29, Tryd.ntmps29
  go_wp2_with fail
  refine (natOk_impl _ _ _ xs _ HA.out hn).mono ?_
  rintro e w1 ⟨rfl, hb⟩
  have HB1 := Lib.hid hb
  clear hb
  cases hx : okI xs with
  | false =>
    have HE := Lib.hid (fmt_bad hx)
    clear hx
    go_wp2
    go_ret
    exact ⟨ret_str HE.out.symm, HB1.out⟩
  | true =>
    obtain ⟨hxn, hxc, hxl⟩ := okI_nats hx
    have hA2 := HA.out
    rw [hxn] at hA2
    have HE := Lib.hid (fmt_ok hx)
    clear hxn hx HA
    generalize toN xs = ds at *
    have HL := Lib.hid (show ds.length = n by simpa [nats_len] using hA2.1)
    have hn60 : n ≤ 60 := by have := HL.out; omega
    have HX := Lib.hid hxc
    have HA2 := Lib.hid hA2
    clear hxc hA2 hxl hn
    by_cases h0 : n = 0
    · subst h0
      have HN := Lib.hid (show natText ds = ⟨#[48]⟩ by rw [List.eq_nil_of_length_eq_zero HL.out]; rfl)
      go_wp2
      go_ret
      exact ⟨ret_str (by rw [HE.out, HN.out]), HB1.out⟩
    obtain ⟨k, rfl⟩ : ∃ k, n = k + 1 := ⟨n - 1, by omega⟩
    have h0b : (((k + 1 : Nat) : Int) == 0) = false := beq_eq_false_iff_ne.mpr (by omega)
    have h0c : (((k : Int) + 1) == 0) = false := beq_eq_false_iff_ne.mpr (by omega)
    have hbld : Bld w.heap.size w1.heap.size [] (w1.alloc (.cells #[.pointer none, .slice none 0 0] 73)) :=
      .inl ⟨HB1.out.size, .slice none 0 0, heap_alloc_new w1 _, World.ownsRow_nil _ _ _ _, by simp [Value.ownBlock]⟩
    have HBD := Lib.hid hbld
    have HB2 := Lib.hid (HB1.out.alloc HB1.out.size (.cells #[.pointer none, .slice none 0 0] 73))
    clear hbld
    obtain ⟨ga, oa, rfl, hga, hca⟩ := (HA2.out.below HB2.out (Nat.le_refl _)).at_ (show k < k + 1 by omega)
    rw [nats_get] at hca
    have hkl : k < ds.length := by have := HL.out; omega
    have HNT := Lib.hid (natText_at ds k HL.out)
    obtain ⟨x, hx⟩ : ∃ x, ds[k] = x := ⟨_, rfl⟩
    have hxb : x < 1000000000 := hx ▸ HX.out.1.get hkl
    rw [hx] at hca HNT
    clear hx
    have hs1 : IntKind.i64.wrap ((k : Int) + 1 - 1) = (k : Int) := by rw [IntKind.wrap_i64]; omega
    obtain ⟨bk, hbk⟩ : ∃ bk, w1.heap.size = bk := ⟨_, rfl⟩
    rw [hbk] at HBD
    have HBK := Lib.hid hbk
    go_wp2_with fail
    refine (formatInt_impl (x : Int) _ (by omega) (by omega) (HLD.out.below HB2.out)).mono ?_
    rintro e w3 ⟨rfl, hb3⟩
    have HB3 := Lib.hid (HB2.out.trans (hb3.mono HB2.out.size))
    have HBD3 := Lib.hid (HBD.out.below hb3)
    have HT := Lib.hid (show (Nu.itoaB (x : Int)).data.toList = Lib.itoa (x : Int) from Nu.itoaB_data _)
    have hts := itoa9 x hxb
    obtain ⟨t, ht⟩ : ∃ t, Nu.itoaB (x : Int) = t := ⟨_, rfl⟩
    rw [ht] at HT hts ⊢
    clear hb3 ht hca hga HBD hbk
    go_wp2_with fail
    refine (writeString_any w.heap.size bk [] t _ HBD3.out (by simp; omega) HB3.out.size).mono ?_
    rintro e w4 ⟨rfl, hbd4, hb4⟩
    rw [List.nil_append, HT.out] at hbd4
    have HBD4 := Lib.hid hbd4
    have HB4 := Lib.hid (HB3.out.trans hb4)
    have hil0 : (Lib.itoa (x : Int)).length ≤ 9 := by
      have e : (Lib.itoa (x : Int)).length = t.size := by rw [← HT.out]; simp
      omega
    clear hbd4 hb4 HBD3
    go_wp2
    go_loopw [5] (fun i wr => ∃ j : Nat, j ≤ k ∧ i = .int .i64 ((j : Int) - 1) ∧ Bld w.heap.size bk (Lib.itoa (x : Int) ++ low ((ds.take k).drop j)) wr ∧ Below w.heap.size w wr) (fun i _ => (intOf i + 1).toNat)
    case atStart => exact ⟨k, Nat.le_refl _, by go_num, by rw [List.drop_of_length_le (by simp; omega)]; simpa [low] using HBD4.out, HB4.out⟩
    case round =>
      obtain ⟨j, hj, rfl, hbd, hb⟩ := hrel
      have HBDr := Lib.hid hbd
      have HBr := Lib.hid hb
      clear hbd hb
      by_cases hj0 : j = 0
      · subst hj0
        go_wp2_with fail
        refine (string_any w.heap.size bk _ _ HBDr.out HBr.out.size).mono ?_
        rintro e w5 ⟨rfl, hb5⟩
        have HB5 := Lib.hid (HBr.out.trans hb5)
        clear hb5
        rw [List.drop_zero]
        have HF := Lib.hid (show fmtN xs = ⟨(Lib.itoa (x : Int) ++ low (ds.take k)).toArray⟩ by rw [HE.out, HNT.out])
        obtain ⟨r, hr⟩ : ∃ r : ByteArray, ⟨(Lib.itoa (x : Int) ++ low (ds.take k)).toArray⟩ = r := ⟨_, rfl⟩
        rw [hr] at HF ⊢
        clear hr
        go_wp2
        go_ret
        exact ⟨ret_str HF.out.symm, HB5.out⟩
      · obtain ⟨i, rfl⟩ : ∃ i, j = i + 1 := ⟨j - 1, by omega⟩
        have hwi : ((i + 1 : Nat) : Int) - 1 = (i : Int) := by omega
        rw [hwi]
        clear hwi
        obtain ⟨gi, oi, ei, hgi, hci⟩ := (HA2.out.below HBr.out (Nat.le_refl _)).at_ (show i < k + 1 by omega)
        obtain ⟨rfl, rfl⟩ : ga = gi ∧ oa = oi := by simpa using ei
        rw [nats_get] at hci
        have hil : i < ds.length := by have := HL.out; omega
        have HLS := Lib.hid (low_step ds k i HL.out (by omega))
        obtain ⟨y, hy⟩ : ∃ y, ds[i] = y := ⟨_, rfl⟩
        have hyb : y < 1000000000 := hy ▸ HX.out.1.get hil
        rw [hy] at hci HLS
        have hll : (low ((ds.take k).drop (i + 1))).length ≤ 9 * 60 := by
          rw [low_len _ ((HX.out.1.take k).drop _)]
          simp
          omega
        clear hy ei
        have hik : i < k + 1 := by omega
        have hikz : (i : Int) < (k : Int) + 1 := by omega
        go_wp2_with fail
        refine (formatInt_impl (y : Int) _ (by omega) (by omega) (HLD.out.below HBr.out)).mono ?_
        rintro e w5 ⟨rfl, hb5⟩
        have HB5 := Lib.hid (HBr.out.trans (hb5.mono HBr.out.size))
        have HBD5 := Lib.hid (HBDr.out.below hb5)
        have hp9 := pad9_size y hyb
        have HP9 := Lib.hid (show (padz (Nu.itoaB y) 9).data.toList = pad9 y from rfl)
        have h9 := itoa9 y hyb
        clear hb5 HBDr
        go_wp2_with fail
        refine (padZeros_impl _ 9 _ (by omega) (by omega) (by omega)).mono ?_
        rintro e w6 ⟨rfl, hb6⟩
        have HB6 := Lib.hid (HB5.out.trans (hb6.mono HB5.out.size))
        have HBD6 := Lib.hid (HBD5.out.below hb6)
        obtain ⟨p, hp⟩ : ∃ p, padz (Nu.itoaB (y : Int)) 9 = p := ⟨_, rfl⟩
        rw [hp] at hp9 HP9 ⊢
        clear hp hb6 HBD5
        go_wp2_with fail
        refine (writeString_any w.heap.size bk _ p _ HBD6.out (by rw [List.length_append]; omega) HB6.out.size).mono ?_
        rintro e w7 ⟨rfl, hbd7, hb7⟩
        rw [HP9.out, List.append_assoc, ← HLS.out] at hbd7
        have HBD7 := Lib.hid hbd7
        have HB7 := Lib.hid (HB6.out.trans hb7)
        clear hbd7 hb7
        go_wp2
        exact ⟨⟨i, by omega, by go_num, HBD7.out, HB7.out⟩, by simp [intOf]⟩
end Go.Proofs.YtbikkbamcleinaaDoor
