/- Poses: ParsePose of the model and of the program. Conditions: texts of at most 2^20 bytes; the listed variables of strconv hold what the program's text lays (the program's side). -/
import Derived.Test.YtdilgjakodimbaaDoorPoseText
import Derived.Test.YtdilgjakodimbaaDoorPartsBack
import Derived.Test.YtdilgjakodimbaaDoorSplit
import Derived.Test.YtdilgjakodimbaaDoorParse
import Derived.Test.YtdilgjakodimbaaDoorShelf2
namespace Go.Proofs.YtdilgjakodimbaaDoor
open Go.RowKit Po Nu Jn Sp
set_option linter.unusedVariables false

namespace Po
/-- The heading that a letter stands for. -/
def idxL (c : ByteArray) : Int := if c = ⟨#[101]⟩ then 0 else if c = ⟨#[110]⟩ then 1 else if c = ⟨#[119]⟩ then 2 else if c = ⟨#[115]⟩ then 3 else -1
theorem idxL_ltr {t : Int} (h0 : 0 ≤ t) (h1 : t ≤ 3) : idxL (ltr t) = t := by
  rcases four h0 h1 with rfl | rfl | rfl | rfl <;> decide
theorem ltr_idxL {c : ByteArray} (h : 0 ≤ idxL c) : c = ltr (idxL c) := by
  unfold idxL at h ⊢
  split
  · next e => rw [e]; rfl
  · split
    · next e => rw [e]; rfl
    · split
      · next e => rw [e]; rfl
      · split
        · next e => rw [e]; rfl
        · simp_all
theorem idxL_size {c : ByteArray} (h : c.size ≠ 1) : idxL c = -1 := by
  unfold idxL
  rw [if_neg (by intro e; subst e; exact h rfl), if_neg (by intro e; subst e; exact h rfl), if_neg (by intro e; subst e; exact h rfl), if_neg (by intro e; subst e; exact h rfl)]
theorem idxL_byte (b : UInt8) : (Lib.indexByte (⟨#[101, 110, 119, 115]⟩ : ByteArray).data.toList b : Int) = idxL ⟨#[b]⟩ := by
  have e : ∀ x : UInt8, ((⟨#[b]⟩ : ByteArray) = ⟨#[x]⟩) ↔ b = x := fun x => by simp
  unfold idxL
  simp only [e]
  by_cases h1 : b = 101
  · subst h1; decide
  · by_cases h2 : b = 110
    · subst h2; decide
    · by_cases h3 : b = 119
      · subst h3; decide
      · by_cases h4 : b = 115
        · subst h4; decide
        · rw [if_neg h1, if_neg h2, if_neg h3, if_neg h4]
          simp [Lib.indexByte, Ne.symm h1, Ne.symm h2, Ne.symm h3, Ne.symm h4]
/-- The text of a pose. -/
def IsPT (s : ByteArray) : Prop := ∃ t x y : Int, ok t x y = true ∧ s = fmtP t x y
theorem ltr_free (t : Int) : (44 : UInt8) ∉ (ltr t).data.toList := by unfold ltr; split; decide; split; decide; split <;> decide
theorem fmtP_parts {t x y : Int} (h : ok t x y = true) : parts (fmtP t x y) ⟨#[44]⟩ = [itoaB x, itoaB y, ltr t] := by
  rw [fmtP_yes h]
  exact parts_three (itoa_free x) (itoa_free y) (ltr_free t)
theorem ltr_inj {t u : Int} (h0 : 0 ≤ t) (h1 : t ≤ 3) (k0 : 0 ≤ u) (k1 : u ≤ 3) (h : ltr t = ltr u) : t = u := by
  rw [← idxL_ltr h0 h1, ← idxL_ltr k0 k1, h]
theorem fmtP_inj {t x y u a b : Int} (h : ok t x y = true) (k : ok u a b = true) (e : fmtP t x y = fmtP u a b) : t = u ∧ x = a ∧ y = b := by
  have hp := fmtP_parts h
  rw [e, fmtP_parts k] at hp
  obtain ⟨⟨ht0, ht1⟩, hx, hy⟩ := ok_iff.mp h
  obtain ⟨⟨hu0, hu1⟩, ha, hb⟩ := ok_iff.mp k
  simp only [List.cons.injEq, and_true] at hp
  exact ⟨(ltr_inj hu0 hu1 ht0 ht1 hp.2.2).symm, (itoaB_inj _ _ (by omega) (by omega) (by omega) (by omega) hp.1).symm, (itoaB_inj _ _ (by omega) (by omega) (by omega) (by omega) hp.2.1).symm⟩
/-- What ParsePose answers. -/
def ParseP (s : ByteArray) (e : Ending) : Prop :=
  (∃ t x y : Int, ok t x y = true ∧ s = fmtP t x y ∧ e = .returned (.tuple #[.agg #[.int .i64 t, .int .i64 x, .int .i64 y], .bool true])) ∨ (¬ IsPT s ∧ e = .returned (.tuple #[.agg #[.int .i64 0, .int .i64 0, .int .i64 0], .bool false]))
/-- What ParsePose leaves. -/
def ParsedP (s : ByteArray) (w : World) (e : Ending) (w' : World) : Prop := ParseP s e ∧ Below w.heap.size w w'
theorem parsedP_yes {s : ByteArray} {t x y : Int} {w w' : World} {e : Ending} (hk : ok t x y = true) (hs : s = fmtP t x y) (h : ParsedP s w e w') : e = .returned (.tuple #[.agg #[.int .i64 t, .int .i64 x, .int .i64 y], .bool true]) ∧ Below w.heap.size w w' := by
  refine ⟨?_, h.2⟩
  rcases h.1 with ⟨u, a, b, hu, he, h1⟩ | ⟨hno, _⟩
  · obtain ⟨rfl, rfl, rfl⟩ := fmtP_inj hk hu (hs.symm.trans he)
    exact h1
  · exact absurd ⟨t, x, y, hk, hs⟩ hno
theorem parsedP_no {s : ByteArray} {w w' : World} {e : Ending} (hn : ¬ IsPT s) (h : ParsedP s w e w') : e = .returned (.tuple #[.agg #[.int .i64 0, .int .i64 0, .int .i64 0], .bool false]) ∧ Below w.heap.size w w' := by
  refine ⟨?_, h.2⟩
  rcases h.1 with ⟨t, x, y, hk, hs, _⟩ | ⟨_, he⟩
  · exact absurd ⟨t, x, y, hk, hs⟩ hn
  · exact he
/-- What ParseInt answers, as two letters. -/
def PI (a : ByteArray) (x : Int) (k : Bool) : Prop := (k = true ∧ a = itoaB x ∧ -9223372036854775808 ≤ x ∧ x ≤ 9223372036854775807) ∨ (k = false ∧ x = 0 ∧ ¬ IsNum a)
end Po
theorem parsed_pi {a : ByteArray} {w w' : World} {e : Ending} (h : Parsed a w e w') : ∃ x k, e = .returned (.tuple #[.int .i64 x, .bool k]) ∧ PI a x k ∧ Below w.heap.size w w' := by
  rcases h.1 with ⟨n, n0, n1, hn, he⟩ | ⟨hno, he⟩
  · exact ⟨n, true, he, .inl ⟨rfl, hn, n0, n1⟩, h.2⟩
  · exact ⟨0, false, he, .inr ⟨rfl, rfl, hno⟩, h.2⟩
set_option maxRecDepth 100000 in
theorem lite_one (b : UInt8) (w : World) : Calls Tryd.prog 94 #[.string ⟨#[101, 110, 119, 115]⟩, .string ⟨#[b]⟩] w fun e w' => e = .returned (.int .i64 (idxL ⟨#[b]⟩)) ∧ w' = w := by
  have hne := str_ne (⟨#[b]⟩ : ByteArray) ⟨#[101, 110, 119, 115]⟩ (by intro h; have := congrArg ByteArray.size h; exact absurd this (by show (1 : Nat) ≠ 4; decide))
  obtain ⟨hne1, hne2⟩ := hne
  have hsz : (⟨#[b]⟩ : ByteArray).size = 1 := rfl
  go_enter Tryd.func94, Tryd.ntmps94
  go_wp2_with fail
  refine (Tryd.stringslite_IndexByte ⟨#[101, 110, 119, 115]⟩ (b.toNat : Int) _).mono ?_
  rintro e w' ⟨rfl, rfl⟩
  rw [show ((b.toNat : Int).toNat.toUInt8) = b by simp, idxL_byte]
  go_wp2
  go_ret
  exact ⟨rfl, rfl⟩
set_option maxRecDepth 100000 in
theorem turnOfLetter_any (c : ByteArray) (w : World) (hc : c.size ≤ 1048576) : Calls Tryd.prog 41 #[.string c] w fun e w' => e = .returned (.int .i64 (idxL c)) ∧ w' = w := by
  by_cases h1 : c.size = 1
  · obtain ⟨b, rfl⟩ : ∃ b, c = ⟨#[b]⟩ := by
      obtain ⟨⟨l⟩⟩ := c
      match l, h1 with
      | [b], _ => exact ⟨b, rfl⟩
    obtain ⟨k, hk⟩ : ∃ k, idxL ⟨#[b]⟩ = k := ⟨_, rfl⟩
    have HK := Lib.hid hk
    rw [hk]
    clear hk h1 hc
    have hsz : (⟨#[b]⟩ : ByteArray).size = 1 := rfl
    go_enter Tryd.func41, Tryd.ntmps41
    go_wp2_with fail
    have hI : Calls Tryd.prog 72 #[.string ⟨#[101, 110, 119, 115]⟩, .string ⟨#[b]⟩] w fun e w' => e = .returned (.int .i64 k) ∧ w' = w := by
      go_enter Tryd.func72, Tryd.ntmps72
      go_wp2_with fail
      refine (lite_one b _).mono ?_
      rintro e w' ⟨rfl, rfl⟩
      rw [HK.out]
      go_wp2
      go_ret
      exact ⟨rfl, rfl⟩
    refine hI.mono ?_
    rintro e w' ⟨rfl, rfl⟩
    go_wp2
    go_ret
    exact ⟨rfl, rfl⟩
  · rw [idxL_size h1]
    have h2 : ¬ ((c.size : Int) = 1) := by omega
    go_enter Tryd.func41, Tryd.ntmps41
    go_wp2
    all_goals go_ret
    all_goals exact ⟨rfl, rfl⟩
end Go.Proofs.YtdilgjakodimbaaDoor
