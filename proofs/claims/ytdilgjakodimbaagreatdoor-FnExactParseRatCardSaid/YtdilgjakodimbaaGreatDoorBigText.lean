/- Big integers: FormatBigInt and ParseBigInt of the model and of the program. Conditions: none. -/
import Derived.Test.YtdilgjakodimbaaGreatDoorProg
import Derived.Test.YtdilgjakodimbaaGreatDoorBig
import Derived.Test.YtdilgjakodimbaaGreatDoorFormatNat
import Derived.Test.YtdilgjakodimbaaGreatDoorParseNat
import Derived.Test.YtdilgjakodimbaaGreatDoorShelf
namespace Go.Proofs.YtdilgjakodimbaaGreatDoor
open Go.RowKit Nt
set_option linter.unusedVariables false

/-- What FormatBigInt answers. -/
def fmtB (s : Bool) (xs : List Int) : ByteArray := if okB s xs = true then (if s = true then (⟨#[45]⟩ : ByteArray) ++ fmtN xs else fmtN xs) else ⟨#[]⟩
theorem fmtN_size (xs : List Int) : (fmtN xs).size ≤ 600 := by
  by_cases h : okI xs = true
  · rw [fmt_ok h]
    obtain ⟨_, hc, hl⟩ := okI_nats h
    cases hk : (toN xs).length with
    | zero => rw [List.eq_nil_of_length_eq_zero hk]; decide
    | succ k =>
      rw [natText_at _ k hk]
      have h9 := itoa9 ((toN xs)[k]'(by omega)) (hc.1.get (by omega))
      have hlow := low_len ((toN xs).take k) (hc.1.take k)
      have e : (Lib.itoa (((toN xs)[k]'(by omega) : Nat) : Int)).length = (Nu.itoaB ((toN xs)[k]'(by omega) : Nat)).size := by
        have e1 : (Nu.itoaB ((toN xs)[k]'(by omega) : Nat)).size = (Nu.itoaB ((toN xs)[k]'(by omega) : Nat)).data.toList.length := by simp
        rw [e1, Nu.itoaB_data]
      show ((Lib.itoa (((toN xs)[k]'(by omega) : Nat) : Int) ++ low ((toN xs).take k)).toArray).size ≤ 600
      rw [List.size_toArray, List.length_append, hlow, e, List.length_take]
      omega
  · rw [fmt_bad (by simpa using h)]
    decide
theorem fmtB_no {s : Bool} {xs : List Int} (h : okB s xs = false) : fmtB s xs = ⟨#[]⟩ := by simp [fmtB, h]
theorem fmtB_true {xs : List Int} (h : okB true xs = true) : fmtB true xs = (⟨#[45]⟩ : ByteArray) ++ fmtN xs := by simp [fmtB, h]
theorem fmtB_false {xs : List Int} (h : okB false xs = true) : fmtB false xs = fmtN xs := by simp [fmtB, h]
set_option maxRecDepth 100000 in
set_option maxHeartbeats 4000000 in
theorem formatBigInt_spec (s : Bool) (A : Option Addr) (n c : Nat) (xs : List Int) (w : World) (hA : VRow w A n (ints xs)) (hn : n ≤ maxLen) :
    Calls Tryz.prog 29 #[.agg #[.bool s, .slice A n c]] w fun e w' => e = .returned (.string (fmtB s xs)) ∧ Below w.heap.size w w' := by
  have HA := Lib.hid hA
  have HN := Lib.hid hn
  have HL := Lib.hid (show xs.length = n by simpa [ints] using hA.1)
  clear hA hn
  go_enter Tryz.func29, Tryz.ntmps29
  have HB_0 := Lib.hid ((Below.refl w.heap.size w).alloc (Nat.le_refl _) (.cells #[.bool s, .slice A n c] 24))
  have K0_0 := Lib.hid (Held.new_at w (w.heap.size) (.bool s) (.slice A n c) 24 (by first | rfl | simp))
  go_wp2_with fail
  refine (bigIntOk_spec s A n c xs _ (HA.out.below HB_0.out (Nat.le_refl _)) HN.out).mono ?_
  rintro e w0 ⟨rfl, hb⟩
  have K0_1 := Lib.hid (K0_0.out.after hb)
  have HB_1 := Lib.hid (HB_0.out.trans (hb.mono HB_0.out.size))
  clear hb
  by_cases hok : okB s xs = true
  · rw [hok]
    cases s
    · have HE := Lib.hid (fmtB_false hok)
      clear hok
      have hk0c0_1 := K0_1.out.c0
      have hk0c1_1 := K0_1.out.c1
      go_wp2_with fail
      refine (formatNat_spec A n c xs _ (HA.out.below HB_1.out (Nat.le_refl _)) HN.out).mono ?_
      rintro e w1 ⟨rfl, hb⟩
      have K0_2 := Lib.hid (K0_1.out.after hb)
      have HB_2 := Lib.hid (HB_1.out.trans (hb.mono HB_1.out.size))
      clear hb
      clear hk0c0_1
      clear hk0c1_1
      have hqs := fmtN_size xs
      obtain ⟨q, hq⟩ : ∃ q, fmtN xs = q := ⟨_, rfl⟩
      rw [hq] at hqs
      have HQ := Lib.hid hq
      rw [hq]
      clear hq
      go_wp2
      go_ret
      exact ⟨by rw [HE.out, HQ.out]; rfl, HB_2.out⟩
    · have HE := Lib.hid (fmtB_true hok)
      clear hok
      have hk0c0_1 := K0_1.out.c0
      have hk0c1_1 := K0_1.out.c1
      go_wp2_with fail
      refine (formatNat_spec A n c xs _ (HA.out.below HB_1.out (Nat.le_refl _)) HN.out).mono ?_
      rintro e w1 ⟨rfl, hb⟩
      have K0_2 := Lib.hid (K0_1.out.after hb)
      have HB_2 := Lib.hid (HB_1.out.trans (hb.mono HB_1.out.size))
      clear hb
      clear hk0c0_1
      clear hk0c1_1
      have hqs := fmtN_size xs
      obtain ⟨q, hq⟩ : ∃ q, fmtN xs = q := ⟨_, rfl⟩
      rw [hq] at hqs
      have HQ := Lib.hid hq
      rw [hq]
      clear hq
      go_wp2
      go_ret
      exact ⟨by rw [HE.out, HQ.out]; rfl, HB_2.out⟩
  · rw [Bool.not_eq_true] at hok
    rw [hok]
    have HE := Lib.hid (fmtB_no hok)
    clear hok
    go_wp2
    go_ret
    exact ⟨by rw [HE.out]; rfl, HB_1.out⟩
/-- The sign of a text and what follows it. -/
def negT (s : ByteArray) : Bool := Lib.hasPrefix s.data.toList [45]
def restT (s : ByteArray) : ByteArray := ⟨(Lib.trimPrefix s.data.toList [45]).toArray⟩
/-- What ParseBigInt answers. -/
def bpOk (s : ByteArray) : Bool := pOk (restT s) && !(negT s && decide ((parseN (restT s)).length = 0))
def bpS (s : ByteArray) : Bool := bpOk s && negT s
def bpM (s : ByteArray) : List Nat := if bpOk s = true then parseN (restT s) else []
theorem bpM_len (s : ByteArray) : (bpM s).length ≤ 60 := by unfold bpM; split; exact parseN_len _; simp
theorem bp_no {s : ByteArray} (h : bpOk s = false) : bpS s = false ∧ bpM s = [] := by simp [bpS, bpM, h]
theorem bp_yes {s : ByteArray} (h : bpOk s = true) : bpS s = negT s ∧ bpM s = parseN (restT s) := by simp [bpS, bpM, h]
theorem rest_size (s : ByteArray) : (restT s).size ≤ s.size := by
  have e : (restT s).size = (Lib.trimPrefix s.data.toList [45]).length := by
    show ((Lib.trimPrefix s.data.toList [45]).toArray).size = _
    rw [List.size_toArray]
  have e2 : s.size = s.data.toList.length := by simp
  rw [e, e2]
  unfold Lib.trimPrefix
  split <;> simp
theorem parse_ok {t : ByteArray} (h : pOk t = true) : okI ((parseN t).map fun d : Nat => (d : Int)) = true := okI_of_nats (by rw [parseN_yes h]; exact dig_can _) (parseN_len t)
theorem okB_parse {s : ByteArray} (h : pOk (restT s) = true) : okB (negT s) ((parseN (restT s)).map fun d : Nat => (d : Int)) = bpOk s := by
  unfold okB bpOk
  rw [parse_ok h, h, List.length_map]
  by_cases h0 : (parseN (restT s)).length = 0
  · simp [h0]
  · have h1 : 0 < (parseN (restT s)).length := by omega
    simp [h0, h1]
theorem neg_empty {s : ByteArray} (h : s.size = 0) : negT s = false ∧ restT s = s := by
  have e : s.data.toList = [] := by
    apply List.eq_nil_of_length_eq_zero
    have e2 : s.size = s.data.toList.length := by simp
    omega
  have h1 : negT s = false := by unfold negT Lib.hasPrefix; rw [e]; rfl
  refine ⟨h1, bytes_ext ?_⟩
  simp [restT, Lib.trimPrefix, Lib.hasPrefix, e]
theorem neg_at {s : ByteArray} (h : 0 < s.size) : negT s = decide (s[0] = 45) ∧ (negT s = false → restT s = s) ∧ (negT s = true → restT s = s.extract 1 s.size) := by
  have e2 : s.size = s.data.toList.length := by simp
  have hl : 0 < s.data.toList.length := by omega
  obtain ⟨b, l, e⟩ : ∃ b l, s.data.toList = b :: l := by
    cases hh : s.data.toList with
    | nil => rw [hh] at hl; simp at hl
    | cons b l => exact ⟨b, l, rfl⟩
  have hg : s[0] = b := by
    have h3 : s[0] = s.data.toList[0]'hl := rfl
    rw [h3]
    simp [e]
  have hn : negT s = decide (b = 45) := by
    unfold negT Lib.hasPrefix
    rw [e]
    by_cases hb : b = 45
    · subst hb; simp [List.isPrefixOf]
    · simp [List.isPrefixOf, hb, Ne.symm hb]
  refine ⟨by rw [hg]; exact hn, fun hf => bytes_ext ?_, fun ht => bytes_ext ?_⟩
  · unfold negT at hf
    simp [restT, Lib.trimPrefix, hf]
  · unfold negT at ht
    rw [extract_list]
    rw [show s.data.toList.take s.size = s.data.toList by rw [e2]; exact List.take_length]
    simp [restT, Lib.trimPrefix, ht]
/-- What a function leaves that returns a big integer in new memory and a truth value. -/
def OwnRP (e : TypeId) (sg : Bool) (xs : List Value) (ok : Bool) (w : World) (en : Ending) (w' : World) : Prop :=
  ∃ v, en = .returned (.tuple #[.agg #[.bool sg, v], .bool ok]) ∧ OwnV w' w.heap.size e v xs ∧ Below w.heap.size w w'
theorem ownRP_close {w w2 : World} {e : TypeId} {s ok : Bool} {v : Value} {xs : List Value} {b base : Nat} (hb : Below w.heap.size w w2) (ho : OwnV w2 base e v xs) (hlt : b < base) (hB : w.heap.size ≤ b) :
    OwnRP e s xs ok w (.returned (.tuple #[.agg #[.bool s, v], .bool ok])) ((w2.setCell ⟨b, 0, none⟩ (.bool s)).setCell ⟨b, 1, none⟩ v) :=
  ⟨v, rfl, ((ho.setBelow hlt _).setBelow hlt _).based (by omega), (hb.setCell hB _).setCell hB _⟩
set_option maxRecDepth 100000 in
set_option maxHeartbeats 4000000 in
theorem parseBigInt_impl (s : ByteArray) (w : World) (hs : s.size ≤ maxLen) :
    Calls Tryz.prog 14 #[.string s] w (OwnRP 3 (bpS s) (nats (bpM s)) (bpOk s) w) := by
  obtain ⟨RS, hRS⟩ : ∃ b, bpS s = b := ⟨_, rfl⟩
  obtain ⟨RM, hRM⟩ : ∃ l, bpM s = l := ⟨_, rfl⟩
  obtain ⟨RO, hRO⟩ : ∃ b, bpOk s = b := ⟨_, rfl⟩
  rw [hRS, hRM, hRO]
  have HRS := Lib.hid hRS
  have HRM := Lib.hid hRM
  have HRO := Lib.hid hRO
  clear hRS hRM hRO
  have HRZ := Lib.hid (Nat.le_trans (rest_size s) hs)
  clear hs
  go_enter Tryz.func14, Tryz.ntmps14
  have HB_0 := Lib.hid ((Below.refl w.heap.size w).alloc (Nat.le_refl _) (.cells #[.bool false, .slice none 0 0] 24))
  have K0_0 := Lib.hid (Held.new_at w (w.heap.size) (.bool false) (.slice none 0 0) 24 (by first | rfl | simp))
  go_wp2_with fail
  refine (Tryz.strings_CutPrefix s ⟨#[45]⟩ _).mono ?_
  rintro e w0 ⟨rfl, rfl⟩
  rw [show (⟨(Lib.trimPrefix s.data.toList (⟨#[45]⟩ : ByteArray).data.toList).toArray⟩ : ByteArray) = restT s from rfl, show Lib.hasPrefix s.data.toList (⟨#[45]⟩ : ByteArray).data.toList = negT s from rfl]
  obtain ⟨t, ht⟩ : ∃ t, restT s = t := ⟨_, rfl⟩
  obtain ⟨g, hg⟩ : ∃ g, negT s = g := ⟨_, rfl⟩
  rw [ht, hg]
  rw [ht] at HRZ
  have HT := Lib.hid ht
  have HG := Lib.hid hg
  clear ht hg
  go_wp2_with fail
  refine (parseNat_impl t _ HRZ.out).mono ?_
  rintro e w1 ⟨v, rfl, ho, hb⟩
  obtain ⟨A1, c1, rfl⟩ := ho.shape
  have HO := Lib.hid ho
  clear ho
  have K0_1 := Lib.hid (K0_0.out.after hb)
  have HB_1 := Lib.hid (HB_0.out.trans (hb.mono HB_0.out.size))
  clear hb
  have hl63 : (nats (parseN t)).length ≤ 9223372036854775807 := by rw [nats_len]; have := parseN_len t; omega
  have HL60 := Lib.hid (show (nats (parseN t)).length ≤ maxLen by rw [nats_len]; have := parseN_len t; unfold maxLen; omega)
  have K0_2 := Lib.hid (K0_1.out.alloc (.cells #[.bool g, .slice A1 (nats (parseN t)).length c1] 24))
  have K1_2 := Lib.hid (Held.new w1 (.bool g) (.slice A1 (nats (parseN t)).length c1) 24)
  have hne01 : w.heap.size ≠ w1.heap.size := by have := K0_1.out.lt; omega
  have hne10 : w1.heap.size ≠ w.heap.size := by have := K0_1.out.lt; omega
  have HO_2 := Lib.hid (OwnV.below HO.out ((Below.refl _ w1).alloc (Nat.le_refl _) (.cells #[.bool g, .slice A1 (nats (parseN t)).length c1] 24)))
  have HB_2 := Lib.hid (HB_1.out.alloc HB_1.out.size (.cells #[.bool g, .slice A1 (nats (parseN t)).length c1] 24))
  by_cases hp : pOk t = true
  · rw [hp]
    have HOB := Lib.hid (show okB g ((parseN t).map fun d : Nat => (d : Int)) = RO by rw [← HRO.out, ← HT.out, ← HG.out]; exact okB_parse (by rw [HT.out]; exact hp))
    clear hp
    have hk1c0_2 := K1_2.out.c0
    have hk1c1_2 := K1_2.out.c1
    have hk0c0_2 := K0_2.out.c0
    have hk0c1_2 := K0_2.out.c1
    have hk0f0_2 := K0_2.out.f0
    have hk0f1_2 := K0_2.out.f1
    go_wp2_with fail
    refine (bigIntOk_impl g A1 _ c1 ((parseN t).map fun d : Nat => (d : Int)) _ HO_2.out.row HL60.out).mono ?_
    rintro e w2 ⟨rfl, hb⟩
    rw [HOB.out]
    have K0_3 := Lib.hid (K0_2.out.after hb)
    have K1_3 := Lib.hid (K1_2.out.after hb)
    have HO_3 := Lib.hid (OwnV.below (w := (w1.alloc (.cells #[.bool g, .slice A1 (nats (parseN t)).length c1] 24))) HO_2.out hb)
    have HB_3 := Lib.hid (HB_2.out.trans (hb.mono HB_2.out.size))
    clear hb
    clear hk1c0_2
    clear hk1c1_2
    clear hk0c0_2
    clear hk0c1_2
    clear hk0f0_2
    clear hk0f1_2
    have hk1c0_3 := K1_3.out.c0
    have hk1c1_3 := K1_3.out.c1
    have hk0c0_3 := K0_3.out.c0
    have hk0c1_3 := K0_3.out.c1
    have hk0f0_3 := K0_3.out.f0
    have hk0f1_3 := K0_3.out.f1
    by_cases hr : RO = true
    · subst hr
      have hy := bp_yes HRO.out
      obtain rfl : RS = g := by rw [← HRS.out, hy.1]; exact HG.out
      obtain rfl : RM = parseN t := by rw [← HRM.out, hy.2, HT.out]
      clear hy
      go_wp2
      have hr0 := K0_3.out.c0
      have hr1 := K0_3.out.c1
      exact bodyPost_ret (v := .tuple #[.agg #[.bool RS, .slice A1 (nats (parseN t)).length c1], .bool true]) (by simp [results, Tryz.results14, go_sem, hr0, hr1]) rfl (ownRP_close HB_3.out HO_3.out K0_0.out.lt (by omega))
    · rw [Bool.not_eq_true] at hr
      subst hr
      have hno := bp_no HRO.out
      obtain rfl : RS = false := by rw [← HRS.out]; exact hno.1
      obtain rfl : RM = [] := by rw [← HRM.out]; exact hno.2
      clear hno
      go_wp2
      have hr0 := K0_3.out.c0
      have hr1 := K0_3.out.c1
      exact bodyPost_ret (v := .tuple #[.agg #[.bool false, .slice none 0 0], .bool false]) (by simp [results, Tryz.results14, go_sem, hr0, hr1]) rfl (ownRP_close HB_3.out (OwnV.nil _ (w.heap.size + 1) _) (Nat.lt_succ_self _) (by omega))
  · rw [Bool.not_eq_true] at hp
    rw [hp]
    have hbn : bpOk s = false := by unfold bpOk; rw [HT.out, hp]; rfl
    have hno := bp_no (s := s) (hbn)
    obtain rfl : RS = false := by rw [← HRS.out]; exact hno.1
    obtain rfl : RM = [] := by rw [← HRM.out]; exact hno.2
    obtain rfl : RO = false := by rw [← HRO.out]; exact hbn
    clear hno
    clear hbn hp
    have hk1c0_2 := K1_2.out.c0
    have hk1c1_2 := K1_2.out.c1
    have hk0c0_2 := K0_2.out.c0
    have hk0c1_2 := K0_2.out.c1
    have hk0f0_2 := K0_2.out.f0
    have hk0f1_2 := K0_2.out.f1
    go_wp2
    have hr0 := K0_2.out.c0
    have hr1 := K0_2.out.c1
    exact bodyPost_ret (v := .tuple #[.agg #[.bool false, .slice none 0 0], .bool false]) (by simp [results, Tryz.results14, go_sem, hr0, hr1]) rfl (ownRP_close HB_2.out (OwnV.nil _ (w.heap.size + 1) _) (Nat.lt_succ_self _) (by omega))
set_option maxRecDepth 100000 in
set_option maxHeartbeats 4000000 in
theorem parseBigInt_spec (s : ByteArray) (w : World) (hs : s.size ≤ maxLen) :
    Calls Tryz.prog 10 #[.string s] w (OwnRP 3 (bpS s) (nats (bpM s)) (bpOk s) w) := by
  obtain ⟨RS, hRS⟩ : ∃ b, bpS s = b := ⟨_, rfl⟩
  obtain ⟨RM, hRM⟩ : ∃ l, bpM s = l := ⟨_, rfl⟩
  obtain ⟨RO, hRO⟩ : ∃ b, bpOk s = b := ⟨_, rfl⟩
  rw [hRS, hRM, hRO]
  have HRS := Lib.hid hRS
  have HRM := Lib.hid hRM
  have HRO := Lib.hid hRO
  clear hRS hRM hRO
  have HS := Lib.hid hs
  have hs63 : s.size ≤ 9223372036854775807 := by unfold maxLen at hs; omega
  clear hs
  by_cases h0 : s.size = 0
  · have HG := Lib.hid (neg_empty h0).1
    have HT := Lib.hid (neg_empty h0).2
    have HRZ := Lib.hid HS.out
    go_enter Tryz.func10, Tryz.ntmps10
    have HB_0 := Lib.hid ((Below.refl w.heap.size w).alloc (Nat.le_refl _) (.cells #[.bool false, .slice none 0 0] 24))
    have K0_0 := Lib.hid (Held.new_at w (w.heap.size) (.bool false) (.slice none 0 0) 24 (by first | rfl | simp))
    go_wp2_with fail
    refine (parseNat_spec s _ HRZ.out).mono ?_
    rintro e w1 ⟨v, rfl, ho, hb⟩
    obtain ⟨A1, c1, rfl⟩ := ho.shape
    have HO := Lib.hid ho
    clear ho
    have K0_1 := Lib.hid (K0_0.out.after hb)
    have HB_1 := Lib.hid (HB_0.out.trans (hb.mono HB_0.out.size))
    clear hb
    have hl63 : (nats (parseN s)).length ≤ 9223372036854775807 := by rw [nats_len]; have := parseN_len s; omega
    have HB9 := Lib.hid (show bpOk s = (pOk s && !(false && decide ((nats (parseN s)).length = 0))) by unfold bpOk; rw [HT.out, HG.out, nats_len])
    obtain ⟨L9, hL9⟩ : ∃ k, (nats (parseN s)).length = k := ⟨_, rfl⟩
    have HL9 := Lib.hid hL9
    rw [hL9] at hl63 HO HB9 ⊢
    clear hL9
    by_cases hp : pOk s = true
    · rw [hp] at HB9 ⊢
      by_cases h0 : L9 = 0
      · subst h0
        have hby : bpOk s = true := by rw [HB9.out]; simp
        have hy := bp_yes hby
        obtain rfl : RS = false := by rw [← HRS.out, hy.1]; exact HG.out
        obtain rfl : RM = parseN s := by rw [← HRM.out, hy.2, HT.out]
        obtain rfl : RO = true := by rw [← HRO.out]; exact hby
        clear hy hby
        have hk0c0_1 := K0_1.out.c0
        have hk0c1_1 := K0_1.out.c1
        have hk0f0_1 := K0_1.out.f0
        have hk0f1_1 := K0_1.out.f1
        go_wp2
        have hr0 := K0_1.out.c0
        have hr1 := K0_1.out.c1
        exact bodyPost_ret (v := .tuple #[.agg #[.bool false, .slice A1 0 c1], .bool true]) (by simp [results, Tryz.results10, go_sem, hr0, hr1]) rfl (ownRP_close HB_1.out HO.out K0_0.out.lt (by omega))
      · have h1 : 0 < L9 := by omega
        have hby : bpOk s = true := by rw [HB9.out]; simp [h0]
        have hy := bp_yes hby
        obtain rfl : RS = false := by rw [← HRS.out, hy.1]; exact HG.out
        obtain rfl : RM = parseN s := by rw [← HRM.out, hy.2, HT.out]
        obtain rfl : RO = true := by rw [← HRO.out]; exact hby
        clear hy hby
        have hk0c0_1 := K0_1.out.c0
        have hk0c1_1 := K0_1.out.c1
        have hk0f0_1 := K0_1.out.f0
        have hk0f1_1 := K0_1.out.f1
        go_wp2
        have hr0 := K0_1.out.c0
        have hr1 := K0_1.out.c1
        exact bodyPost_ret (v := .tuple #[.agg #[.bool false, .slice A1 L9 c1], .bool true]) (by simp [results, Tryz.results10, go_sem, hr0, hr1]) rfl (ownRP_close HB_1.out HO.out K0_0.out.lt (by omega))
    · rw [Bool.not_eq_true] at hp
      rw [hp] at HB9 ⊢
      have hbn : bpOk s = false := by rw [HB9.out]; rfl
      have hno := bp_no (s := s) (hbn)
      obtain rfl : RS = false := by rw [← HRS.out]; exact hno.1
      obtain rfl : RM = [] := by rw [← HRM.out]; exact hno.2
      obtain rfl : RO = false := by rw [← HRO.out]; exact hbn
      clear hno
      clear hbn hp
      have hk0c0_1 := K0_1.out.c0
      have hk0c1_1 := K0_1.out.c1
      have hk0f0_1 := K0_1.out.f0
      have hk0f1_1 := K0_1.out.f1
      go_wp2
      have hr0 := K0_1.out.c0
      have hr1 := K0_1.out.c1
      exact bodyPost_ret (v := .tuple #[.agg #[.bool false, .slice none 0 0], .bool false]) (by simp [results, Tryz.results10, go_sem, hr0, hr1]) rfl (ownRP_close HB_1.out (OwnV.nil _ (w.heap.size + 1) _) (Nat.lt_succ_self _) (by omega))
  · have hpos : 0 < s.size := by omega
    obtain ⟨hn, hr1, hr2⟩ := neg_at hpos
    have hx : (0 : Int) < (s.size : Int) := by omega
    by_cases h45 : s[0] = 45
    · have hg : negT s = true := by rw [hn]; simp [h45]
      have HG := Lib.hid hg
      have HT := Lib.hid (hr2 hg)
      have HRZ := Lib.hid (show (s.extract 1 s.size).size ≤ maxLen by have h := rest_size s; rw [HT.out] at h; exact Nat.le_trans h HS.out)
      have hbq : (((s[0].toNat : Nat) : Int) == 45) = true := by rw [h45]; rfl
      clear hn hr1 hr2 hg h45
      go_enter Tryz.func10, Tryz.ntmps10
      have HB_0 := Lib.hid ((Below.refl w.heap.size w).alloc (Nat.le_refl _) (.cells #[.bool false, .slice none 0 0] 24))
      have K0_0 := Lib.hid (Held.new_at w (w.heap.size) (.bool false) (.slice none 0 0) 24 (by first | rfl | simp))
      go_wp2_with fail
      refine (parseNat_spec (s.extract 1 s.size) _ HRZ.out).mono ?_
      rintro e w1 ⟨v, rfl, ho, hb⟩
      obtain ⟨A1, c1, rfl⟩ := ho.shape
      have HO := Lib.hid ho
      clear ho
      have K0_1 := Lib.hid (K0_0.out.after hb)
      have HB_1 := Lib.hid (HB_0.out.trans (hb.mono HB_0.out.size))
      clear hb
      have hl63 : (nats (parseN (s.extract 1 s.size))).length ≤ 9223372036854775807 := by rw [nats_len]; have := parseN_len (s.extract 1 s.size); omega
      have HB9 := Lib.hid (show bpOk s = (pOk (s.extract 1 s.size) && !(true && decide ((nats (parseN (s.extract 1 s.size))).length = 0))) by unfold bpOk; rw [HT.out, HG.out, nats_len])
      obtain ⟨L9, hL9⟩ : ∃ k, (nats (parseN (s.extract 1 s.size))).length = k := ⟨_, rfl⟩
      have HL9 := Lib.hid hL9
      rw [hL9] at hl63 HO HB9 ⊢
      clear hL9
      by_cases hp : pOk (s.extract 1 s.size) = true
      · rw [hp] at HB9 ⊢
        by_cases h0 : L9 = 0
        · subst h0
          have hbn : bpOk s = false := by rw [HB9.out]; rfl
          have hno := bp_no (s := s) (hbn)
          obtain rfl : RS = false := by rw [← HRS.out]; exact hno.1
          obtain rfl : RM = [] := by rw [← HRM.out]; exact hno.2
          obtain rfl : RO = false := by rw [← HRO.out]; exact hbn
          clear hno
          clear hbn
          have hk0c0_1 := K0_1.out.c0
          have hk0c1_1 := K0_1.out.c1
          have hk0f0_1 := K0_1.out.f0
          have hk0f1_1 := K0_1.out.f1
          go_wp2
          have hr0 := K0_1.out.c0
          have hr1 := K0_1.out.c1
          exact bodyPost_ret (v := .tuple #[.agg #[.bool false, .slice none 0 0], .bool false]) (by simp [results, Tryz.results10, go_sem, hr0, hr1]) rfl (ownRP_close HB_1.out (OwnV.nil _ (w.heap.size + 1) _) (Nat.lt_succ_self _) (by omega))
        · have h1 : 0 < L9 := by omega
          have hby : bpOk s = true := by rw [HB9.out]; simp [h0]
          have hy := bp_yes hby
          obtain rfl : RS = true := by rw [← HRS.out, hy.1]; exact HG.out
          obtain rfl : RM = parseN (s.extract 1 s.size) := by rw [← HRM.out, hy.2, HT.out]
          obtain rfl : RO = true := by rw [← HRO.out]; exact hby
          clear hy hby
          have hk0c0_1 := K0_1.out.c0
          have hk0c1_1 := K0_1.out.c1
          have hk0f0_1 := K0_1.out.f0
          have hk0f1_1 := K0_1.out.f1
          go_wp2
          have hr0 := K0_1.out.c0
          have hr1 := K0_1.out.c1
          exact bodyPost_ret (v := .tuple #[.agg #[.bool true, .slice A1 L9 c1], .bool true]) (by simp [results, Tryz.results10, go_sem, hr0, hr1]) rfl (ownRP_close HB_1.out HO.out K0_0.out.lt (by omega))
      · rw [Bool.not_eq_true] at hp
        rw [hp] at HB9 ⊢
        have hbn : bpOk s = false := by rw [HB9.out]; rfl
        have hno := bp_no (s := s) (hbn)
        obtain rfl : RS = false := by rw [← HRS.out]; exact hno.1
        obtain rfl : RM = [] := by rw [← HRM.out]; exact hno.2
        obtain rfl : RO = false := by rw [← HRO.out]; exact hbn
        clear hno
        clear hbn hp
        have hk0c0_1 := K0_1.out.c0
        have hk0c1_1 := K0_1.out.c1
        have hk0f0_1 := K0_1.out.f0
        have hk0f1_1 := K0_1.out.f1
        go_wp2
        have hr0 := K0_1.out.c0
        have hr1 := K0_1.out.c1
        exact bodyPost_ret (v := .tuple #[.agg #[.bool false, .slice none 0 0], .bool false]) (by simp [results, Tryz.results10, go_sem, hr0, hr1]) rfl (ownRP_close HB_1.out (OwnV.nil _ (w.heap.size + 1) _) (Nat.lt_succ_self _) (by omega))
    · have hg : negT s = false := by rw [hn]; simp [h45]
      have HG := Lib.hid hg
      have HT := Lib.hid (hr1 hg)
      have HRZ := Lib.hid (show s.size ≤ maxLen by exact HS.out)
      have hbq : (((s[0].toNat : Nat) : Int) == 45) = false := by rw [beq_eq_false_iff_ne]; intro h; exact h45 (UInt8.toNat_inj.mp (by have : (45 : UInt8).toNat = 45 := rfl; omega))
      clear hn hr1 hr2 hg h45
      go_enter Tryz.func10, Tryz.ntmps10
      have HB_0 := Lib.hid ((Below.refl w.heap.size w).alloc (Nat.le_refl _) (.cells #[.bool false, .slice none 0 0] 24))
      have K0_0 := Lib.hid (Held.new_at w (w.heap.size) (.bool false) (.slice none 0 0) 24 (by first | rfl | simp))
      go_wp2_with fail
      refine (parseNat_spec s _ HRZ.out).mono ?_
      rintro e w1 ⟨v, rfl, ho, hb⟩
      obtain ⟨A1, c1, rfl⟩ := ho.shape
      have HO := Lib.hid ho
      clear ho
      have K0_1 := Lib.hid (K0_0.out.after hb)
      have HB_1 := Lib.hid (HB_0.out.trans (hb.mono HB_0.out.size))
      clear hb
      have hl63 : (nats (parseN s)).length ≤ 9223372036854775807 := by rw [nats_len]; have := parseN_len s; omega
      have HB9 := Lib.hid (show bpOk s = (pOk s && !(false && decide ((nats (parseN s)).length = 0))) by unfold bpOk; rw [HT.out, HG.out, nats_len])
      obtain ⟨L9, hL9⟩ : ∃ k, (nats (parseN s)).length = k := ⟨_, rfl⟩
      have HL9 := Lib.hid hL9
      rw [hL9] at hl63 HO HB9 ⊢
      clear hL9
      by_cases hp : pOk s = true
      · rw [hp] at HB9 ⊢
        by_cases h0 : L9 = 0
        · subst h0
          have hby : bpOk s = true := by rw [HB9.out]; simp
          have hy := bp_yes hby
          obtain rfl : RS = false := by rw [← HRS.out, hy.1]; exact HG.out
          obtain rfl : RM = parseN s := by rw [← HRM.out, hy.2, HT.out]
          obtain rfl : RO = true := by rw [← HRO.out]; exact hby
          clear hy hby
          have hk0c0_1 := K0_1.out.c0
          have hk0c1_1 := K0_1.out.c1
          have hk0f0_1 := K0_1.out.f0
          have hk0f1_1 := K0_1.out.f1
          go_wp2
          have hr0 := K0_1.out.c0
          have hr1 := K0_1.out.c1
          exact bodyPost_ret (v := .tuple #[.agg #[.bool false, .slice A1 0 c1], .bool true]) (by simp [results, Tryz.results10, go_sem, hr0, hr1]) rfl (ownRP_close HB_1.out HO.out K0_0.out.lt (by omega))
        · have h1 : 0 < L9 := by omega
          have hby : bpOk s = true := by rw [HB9.out]; simp [h0]
          have hy := bp_yes hby
          obtain rfl : RS = false := by rw [← HRS.out, hy.1]; exact HG.out
          obtain rfl : RM = parseN s := by rw [← HRM.out, hy.2, HT.out]
          obtain rfl : RO = true := by rw [← HRO.out]; exact hby
          clear hy hby
          have hk0c0_1 := K0_1.out.c0
          have hk0c1_1 := K0_1.out.c1
          have hk0f0_1 := K0_1.out.f0
          have hk0f1_1 := K0_1.out.f1
          go_wp2
          have hr0 := K0_1.out.c0
          have hr1 := K0_1.out.c1
          exact bodyPost_ret (v := .tuple #[.agg #[.bool false, .slice A1 L9 c1], .bool true]) (by simp [results, Tryz.results10, go_sem, hr0, hr1]) rfl (ownRP_close HB_1.out HO.out K0_0.out.lt (by omega))
      · rw [Bool.not_eq_true] at hp
        rw [hp] at HB9 ⊢
        have hbn : bpOk s = false := by rw [HB9.out]; rfl
        have hno := bp_no (s := s) (hbn)
        obtain rfl : RS = false := by rw [← HRS.out]; exact hno.1
        obtain rfl : RM = [] := by rw [← HRM.out]; exact hno.2
        obtain rfl : RO = false := by rw [← HRO.out]; exact hbn
        clear hno
        clear hbn hp
        have hk0c0_1 := K0_1.out.c0
        have hk0c1_1 := K0_1.out.c1
        have hk0f0_1 := K0_1.out.f0
        have hk0f1_1 := K0_1.out.f1
        go_wp2
        have hr0 := K0_1.out.c0
        have hr1 := K0_1.out.c1
        exact bodyPost_ret (v := .tuple #[.agg #[.bool false, .slice none 0 0], .bool false]) (by simp [results, Tryz.results10, go_sem, hr0, hr1]) rfl (ownRP_close HB_1.out (OwnV.nil _ (w.heap.size + 1) _) (Nat.lt_succ_self _) (by omega))
end Go.Proofs.YtdilgjakodimbaaGreatDoor
