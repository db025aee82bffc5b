/- Big integers: FormatBigInt and ParseBigInt of the model and of the program. Conditions: none. -/
import Derived.Test.YtbikkbamcleinaaDoorProg
import Derived.Test.YtbikkbamcleinaaDoorB4
import Derived.Test.YtbikkbamcleinaaDoorFormatNat
import Derived.Test.YtbikkbamcleinaaDoorParseNat
import Derived.Test.YtbikkbamcleinaaDoorShelf
namespace Go.Proofs.YtbikkbamcleinaaDoor
open Go.RowKit Nt
set_option linter.unusedVariables false

/-- What FormatBigInt answers. -/
def fmtB (s : Bool) (xs : List Int) : ByteArray := if okB s xs = true then (if s = true then (⟨#[45]⟩ : ByteArray) ++ fmtN xs else fmtN xs) else ⟨#[]⟩
theorem fmtN_size (xs : List Int) : (fmtN xs).size ≤ 600 := by
  by_cases h : okI xs = true
  · rw [fmt_ok h]
    obtain ⟨_, hc, hl⟩ := okI_nats h
    cases hk : (toN xs).length with
    | zero => rw [List.eq_nil_of_length_eq_zero hk]; decide
    | succ k =>
      rw [natText_at _ k hk]
      have h9 := itoa9 ((toN xs)[k]'(by omega)) (hc.1.get (by omega))
      have hlow := low_len ((toN xs).take k) (hc.1.take k)
      have e : (Lib.itoa (((toN xs)[k]'(by omega) : Nat) : Int)).length = (Nu.itoaB ((toN xs)[k]'(by omega) : Nat)).size := by
        have e1 : (Nu.itoaB ((toN xs)[k]'(by omega) : Nat)).size = (Nu.itoaB ((toN xs)[k]'(by omega) : Nat)).data.toList.length := by simp
        rw [e1, Nu.itoaB_data]
      show ((Lib.itoa (((toN xs)[k]'(by omega) : Nat) : Int) ++ low ((toN xs).take k)).toArray).size ≤ 600
      rw [List.size_toArray, List.length_append, hlow, e, List.length_take]
      omega
  · rw [fmt_bad (by simpa using h)]
    decide
theorem fmtB_no {s : Bool} {xs : List Int} (h : okB s xs = false) : fmtB s xs = ⟨#[]⟩ := by simp [fmtB, h]
theorem fmtB_true {xs : List Int} (h : okB true xs = true) : fmtB true xs = (⟨#[45]⟩ : ByteArray) ++ fmtN xs := by simp [fmtB, h]
theorem fmtB_false {xs : List Int} (h : okB false xs = true) : fmtB false xs = fmtN xs := by simp [fmtB, h]
set_option maxRecDepth 100000 in
set_option maxHeartbeats 4000000 in
theorem formatBigInt_spec (s : Bool) (A : Option Addr) (n c : Nat) (xs : List Int) (w : World) (hA : VRow w A n (ints xs)) (hn : n ≤ maxLen) :
    Calls Tryd.prog 23 #[.agg #[.bool s, .slice A n c]] w fun e w' => e = .returned (.string (fmtB s xs)) ∧ Below w.heap.size w w' := by
  have HA := Lib.hid hA
  have HN := Lib.hid hn
  have HL := Lib.hid (show xs.length = n by simpa [ints] using hA.1)
  clear hA hn
  go_enter Tryd.func23, Tryd.ntmps23
  have HB_0 := Lib.hid ((Below.refl w.heap.size w).alloc (Nat.le_refl _) (.cells #[.bool s, .slice A n c] 38))
  have K0_0 := Lib.hid (Held.new_at w (w.heap.size) (.bool s) (.slice A n c) 38 (by first | rfl | simp))
  go_wp2_with fail
  refine (bigIntOk_spec s A n c xs _ (HA.out.below HB_0.out (Nat.le_refl _)) HN.out).mono ?_
  rintro e w0 ⟨rfl, hb⟩
  have K0_1 := Lib.hid (K0_0.out.after hb)
  have HB_1 := Lib.hid (HB_0.out.trans (hb.mono HB_0.out.size))
  clear hb
  by_cases hok : okB s xs = true
  · rw [hok]
    cases s
    · have HE := Lib.hid (fmtB_false hok)
      clear hok
      have hk0c0_1 := K0_1.out.c0
      have hk0c1_1 := K0_1.out.c1
      go_wp2_with fail
      refine (formatNat_spec A n c xs _ (HA.out.below HB_1.out (Nat.le_refl _)) HN.out).mono ?_
      rintro e w1 ⟨rfl, hb⟩
      have K0_2 := Lib.hid (K0_1.out.after hb)
      have HB_2 := Lib.hid (HB_1.out.trans (hb.mono HB_1.out.size))
      clear hb
      clear hk0c0_1
      clear hk0c1_1
      have hqs := fmtN_size xs
      obtain ⟨q, hq⟩ : ∃ q, fmtN xs = q := ⟨_, rfl⟩
      rw [hq] at hqs
      have HQ := Lib.hid hq
      rw [hq]
      clear hq
      go_wp2
      go_ret
      exact ⟨by rw [HE.out, HQ.out]; rfl, HB_2.out⟩
    · have HE := Lib.hid (fmtB_true hok)
      clear hok
      have hk0c0_1 := K0_1.out.c0
      have hk0c1_1 := K0_1.out.c1
      go_wp2_with fail
      refine (formatNat_spec A n c xs _ (HA.out.below HB_1.out (Nat.le_refl _)) HN.out).mono ?_
      rintro e w1 ⟨rfl, hb⟩
      have K0_2 := Lib.hid (K0_1.out.after hb)
      have HB_2 := Lib.hid (HB_1.out.trans (hb.mono HB_1.out.size))
      clear hb
      clear hk0c0_1
      clear hk0c1_1
      have hqs := fmtN_size xs
      obtain ⟨q, hq⟩ : ∃ q, fmtN xs = q := ⟨_, rfl⟩
      rw [hq] at hqs
      have HQ := Lib.hid hq
      rw [hq]
      clear hq
      go_wp2
      go_ret
      exact ⟨by rw [HE.out, HQ.out]; rfl, HB_2.out⟩
  · rw [Bool.not_eq_true] at hok
    rw [hok]
    have HE := Lib.hid (fmtB_no hok)
    clear hok
    go_wp2
    go_ret
    exact ⟨by rw [HE.out]; rfl, HB_1.out⟩
set_option maxRecDepth 100000 in
set_option maxHeartbeats 4000000 in
theorem text_any (A : Option Addr) (n c : Nat) (xs : List Int) (w : World) (hA : VRow w A n (ints xs)) (hn : n ≤ maxLen) (hlaid : Laid1 w) :
    Calls Tryd.prog 46 #[.slice A n c] w fun e w' => e = .returned (.string (fmtN xs)) ∧ Below w.heap.size w w' := by
  have HA := Lib.hid hA
  have HN := Lib.hid hn
  have HLD := Lib.hid hlaid
  clear hA hn hlaid
  go_enter Tryd.func46, Tryd.ntmps46
  go_wp2_with fail
  refine (formatNat_impl A n c xs _ HA.out HN.out HLD.out).mono ?_
  rintro e w1 ⟨rfl, hb⟩
  have HB1 := Lib.hid hb
  clear hb
  go_wp2
  go_ret
  exact ⟨rfl, HB1.out⟩
set_option maxRecDepth 100000 in
set_option maxHeartbeats 4000000 in
theorem formatBigInt_impl (s : Bool) (A : Option Addr) (n c : Nat) (xs : List Int) (w : World) (hA : VRow w A n (ints xs)) (hn : n ≤ maxLen) (hlaid : Laid1 w) :
    Calls Tryd.prog 28 #[.agg #[.bool s, .slice A n c]] w fun e w' => e = .returned (.string (fmtB s xs)) ∧ Below w.heap.size w w' := by
  have HLD := Lib.hid hlaid
  clear hlaid
  have HA := Lib.hid hA
  have HN := Lib.hid hn
  have HL := Lib.hid (show xs.length = n by simpa [ints] using hA.1)
  clear hA hn
  go_enter Tryd.func28, Tryd.ntmps28
  have HB_0 := Lib.hid ((Below.refl w.heap.size w).alloc (Nat.le_refl _) (.cells #[.bool s, .slice A n c] 38))
  have K0_0 := Lib.hid (Held.new_at w (w.heap.size) (.bool s) (.slice A n c) 38 (by first | rfl | simp))
  go_wp2_with fail
  refine (signedOf_any s A n c _).mono ?_
  rintro e w00 ⟨rfl, hb⟩
  have K0_1 := Lib.hid (K0_0.out.after hb)
  have HB_1 := Lib.hid (HB_0.out.trans (hb.mono HB_0.out.size))
  clear hb
  have K0_2 := Lib.hid (K0_1.out.alloc (.cells #[.slice A n c, .bool s] 68))
  have K1_2 := Lib.hid (Held.new w00 (.slice A n c) (.bool s) 68)
  have hne01 : w.heap.size ≠ w00.heap.size := by have := K0_1.out.lt; omega
  have hne10 : w00.heap.size ≠ w.heap.size := by have := K0_1.out.lt; omega
  have HB_2 := Lib.hid (HB_1.out.alloc HB_1.out.size (.cells #[.slice A n c, .bool s] 68))
  go_wp2_with fail
  refine (isValid_any s A n c xs _ (HA.out.below HB_2.out (Nat.le_refl _)) HN.out).mono ?_
  rintro e w0 ⟨rfl, hb⟩
  have K0_3 := Lib.hid (K0_2.out.after hb)
  have K1_3 := Lib.hid (K1_2.out.after hb)
  have HB_3 := Lib.hid (HB_2.out.trans (hb.mono HB_2.out.size))
  clear hb
  by_cases hok : okB s xs = true
  · rw [hok]
    cases s
    · have HE := Lib.hid (fmtB_false hok)
      clear hok
      have hk1c0_3 := K1_3.out.c0
      have hk1c1_3 := K1_3.out.c1
      go_wp2_with fail
      refine (text_any A n c xs _ (HA.out.below HB_3.out (Nat.le_refl _)) HN.out (HLD.out.below HB_3.out)).mono ?_
      rintro e w1 ⟨rfl, hb⟩
      have K0_4 := Lib.hid (K0_3.out.after hb)
      have K1_4 := Lib.hid (K1_3.out.after hb)
      have HB_4 := Lib.hid (HB_3.out.trans (hb.mono HB_3.out.size))
      clear hb
      clear hk1c0_3
      clear hk1c1_3
      have hqs := fmtN_size xs
      obtain ⟨q, hq⟩ : ∃ q, fmtN xs = q := ⟨_, rfl⟩
      rw [hq] at hqs
      have HQ := Lib.hid hq
      rw [hq]
      clear hq
      go_wp2
      go_ret
      exact ⟨by rw [HE.out, HQ.out]; rfl, HB_4.out⟩
    · have HE := Lib.hid (fmtB_true hok)
      clear hok
      have hk1c0_3 := K1_3.out.c0
      have hk1c1_3 := K1_3.out.c1
      go_wp2_with fail
      refine (text_any A n c xs _ (HA.out.below HB_3.out (Nat.le_refl _)) HN.out (HLD.out.below HB_3.out)).mono ?_
      rintro e w1 ⟨rfl, hb⟩
      have K0_4 := Lib.hid (K0_3.out.after hb)
      have K1_4 := Lib.hid (K1_3.out.after hb)
      have HB_4 := Lib.hid (HB_3.out.trans (hb.mono HB_3.out.size))
      clear hb
      clear hk1c0_3
      clear hk1c1_3
      have hqs := fmtN_size xs
      obtain ⟨q, hq⟩ : ∃ q, fmtN xs = q := ⟨_, rfl⟩
      rw [hq] at hqs
      have HQ := Lib.hid hq
      rw [hq]
      clear hq
      go_wp2
      go_ret
      exact ⟨by rw [HE.out, HQ.out]; rfl, HB_4.out⟩
  · rw [Bool.not_eq_true] at hok
    rw [hok]
    have HE := Lib.hid (fmtB_no hok)
    clear hok
    go_wp2
    go_ret
    exact ⟨by rw [HE.out]; rfl, HB_3.out⟩
/-- The sign of a text and what follows it. -/
def negT (s : ByteArray) : Bool := Lib.hasPrefix s.data.toList [45]
def restT (s : ByteArray) : ByteArray := ⟨(Lib.trimPrefix s.data.toList [45]).toArray⟩
/-- What ParseBigInt answers. -/
def bpOk (s : ByteArray) : Bool := pOk (restT s) && !(negT s && decide ((parseN (restT s)).length = 0))
def bpS (s : ByteArray) : Bool := bpOk s && negT s
def bpM (s : ByteArray) : List Nat := if bpOk s = true then parseN (restT s) else []
theorem bpM_len (s : ByteArray) : (bpM s).length ≤ 60 := by unfold bpM; split; exact parseN_len _; simp
theorem bp_no {s : ByteArray} (h : bpOk s = false) : bpS s = false ∧ bpM s = [] := by simp [bpS, bpM, h]
theorem bp_yes {s : ByteArray} (h : bpOk s = true) : bpS s = negT s ∧ bpM s = parseN (restT s) := by simp [bpS, bpM, h]
theorem rest_size (s : ByteArray) : (restT s).size ≤ s.size := by
  have e : (restT s).size = (Lib.trimPrefix s.data.toList [45]).length := by
    show ((Lib.trimPrefix s.data.toList [45]).toArray).size = _
    rw [List.size_toArray]
  have e2 : s.size = s.data.toList.length := by simp
  rw [e, e2]
  unfold Lib.trimPrefix
  split <;> simp
theorem parse_ok {t : ByteArray} (h : pOk t = true) : okI ((parseN t).map fun d : Nat => (d : Int)) = true := okI_of_nats (by rw [parseN_yes h]; exact dig_can _) (parseN_len t)
theorem okB_parse {s : ByteArray} (h : pOk (restT s) = true) : okB (negT s) ((parseN (restT s)).map fun d : Nat => (d : Int)) = bpOk s := by
  unfold okB bpOk
  rw [parse_ok h, h, List.length_map]
  by_cases h0 : (parseN (restT s)).length = 0
  · simp [h0]
  · have h1 : 0 < (parseN (restT s)).length := by omega
    simp [h0, h1]
theorem neg_empty {s : ByteArray} (h : s.size = 0) : negT s = false ∧ restT s = s := by
  have e : s.data.toList = [] := by
    apply List.eq_nil_of_length_eq_zero
    have e2 : s.size = s.data.toList.length := by simp
    omega
  have h1 : negT s = false := by unfold negT Lib.hasPrefix; rw [e]; rfl
  refine ⟨h1, bytes_ext ?_⟩
  simp [restT, Lib.trimPrefix, Lib.hasPrefix, e]
theorem neg_at {s : ByteArray} (h : 0 < s.size) : negT s = decide (s[0] = 45) ∧ (negT s = false → restT s = s) ∧ (negT s = true → restT s = s.extract 1 s.size) := by
  have e2 : s.size = s.data.toList.length := by simp
  have hl : 0 < s.data.toList.length := by omega
  obtain ⟨b, l, e⟩ : ∃ b l, s.data.toList = b :: l := by
    cases hh : s.data.toList with
    | nil => rw [hh] at hl; simp at hl
    | cons b l => exact ⟨b, l, rfl⟩
  have hg : s[0] = b := by
    have h3 : s[0] = s.data.toList[0]'hl := rfl
    rw [h3]
    simp [e]
  have hn : negT s = decide (b = 45) := by
    unfold negT Lib.hasPrefix
    rw [e]
    by_cases hb : b = 45
    · subst hb; simp [List.isPrefixOf]
    · simp [List.isPrefixOf, hb, Ne.symm hb]
  refine ⟨by rw [hg]; exact hn, fun hf => bytes_ext ?_, fun ht => bytes_ext ?_⟩
  · unfold negT at hf
    simp [restT, Lib.trimPrefix, hf]
  · unfold negT at ht
    rw [extract_list]
    rw [show s.data.toList.take s.size = s.data.toList by rw [e2]; exact List.take_length]
    simp [restT, Lib.trimPrefix, ht]
/-- What a function leaves that returns a big integer in new memory and a truth value. -/
def OwnRP (e : TypeId) (sg : Bool) (xs : List Value) (ok : Bool) (w : World) (en : Ending) (w' : World) : Prop :=
  ∃ v, en = .returned (.tuple #[.agg #[.bool sg, v], .bool ok]) ∧ OwnV w' w.heap.size e v xs ∧ Below w.heap.size w w'
theorem ownRP_close {w w2 : World} {e : TypeId} {s ok : Bool} {v : Value} {xs : List Value} {b base : Nat} (hb : Below w.heap.size w w2) (ho : OwnV w2 base e v xs) (hlt : b < base) (hB : w.heap.size ≤ b) :
    OwnRP e s xs ok w (.returned (.tuple #[.agg #[.bool s, v], .bool ok])) ((w2.setCell ⟨b, 0, none⟩ (.bool s)).setCell ⟨b, 1, none⟩ v) :=
  ⟨v, rfl, ((ho.setBelow hlt _).setBelow hlt _).based (by omega), (hb.setCell hB _).setCell hB _⟩
end Go.Proofs.YtbikkbamcleinaaDoor
