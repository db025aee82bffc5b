/- Plain facts on the text of a natural number: its groups of nine digits. Conditions: none. -/
import Derived.Test.YtbikkbamcleinaaDoorNumMath
import Derived.Test.YtbikkbamcleinaaDoorB1
import Derived.Test.YtbikkbamcleinaaDoorFormatNat
namespace Go.Proofs.YtbikkbamcleinaaDoor
open Wm
set_option linter.unusedVariables false

theorem val_lt10 (l : List UInt8) (acc : Nat) (h : digAll l = true) : Nu.val acc l < (acc + 1) * 10 ^ l.length := by
  induction l generalizing acc with
  | nil => simp [Nu.val]
  | cons c r ih =>
    obtain ⟨hc, hr⟩ := Nu.digAll_cons c r h
    have e : Nu.val acc (c :: r) = Nu.val (acc * 10 + (c.toNat - 48)) r := rfl
    have h1 := ih (acc * 10 + (c.toNat - 48)) hr
    have h2 : (acc * 10 + (c.toNat - 48) + 1) * 10 ^ r.length ≤ ((acc + 1) * 10) * 10 ^ r.length := Nat.mul_le_mul_right _ (by omega)
    rw [e, List.length_cons, Nat.pow_succ, Nat.mul_comm (10 ^ r.length) 10, ← Nat.mul_assoc]
    omega
theorem val_9 (l : List UInt8) (h : digAll l = true) (hl : l.length ≤ 9) : Nu.val 0 l < 1000000000 := by
  have h1 := val_lt10 l 0 h
  have h2 : 10 ^ l.length ≤ 10 ^ 9 := Nat.pow_le_pow_right (by decide) hl
  omega
theorem digAll_take (l : List UInt8) (k : Nat) (h : digAll l = true) : digAll (l.take k) = true := by
  simp only [digAll, List.all_eq_true] at h ⊢
  exact fun x hx => h x (List.mem_of_mem_take hx)
theorem digAll_drop (l : List UInt8) (k : Nat) (h : digAll l = true) : digAll (l.drop k) = true := by
  simp only [digAll, List.all_eq_true] at h ⊢
  exact fun x hx => h x (List.mem_of_mem_drop hx)
theorem digAll_app (a b : List UInt8) (h1 : digAll a = true) (h2 : digAll b = true) : digAll (a ++ b) = true := by
  simp only [digAll, List.all_append, Bool.and_eq_true] at *
  exact ⟨h1, h2⟩
/-- The limbs that a text of digits stands for, the low one first. -/
def limbs (l : List UInt8) : List Nat := if h : l = [] then [] else Nu.val 0 (l.drop (l.length - 9)) :: limbs (l.take (l.length - 9))
termination_by l.length
decreasing_by
  have : 0 < l.length := List.length_pos_iff.mpr h
  simp
  omega
theorem limbs_nil : limbs [] = [] := by rw [limbs, dif_pos rfl]
theorem limbs_step {l : List UInt8} (h : l ≠ []) : limbs l = Nu.val 0 (l.drop (l.length - 9)) :: limbs (l.take (l.length - 9)) := by rw [limbs, dif_neg h]
theorem limbs_app (t p : List UInt8) (hp : p.length = 9) : limbs (t ++ p) = Nu.val 0 p :: limbs t := by
  have hne : t ++ p ≠ [] := by intro e; have := congrArg List.length e; rw [List.length_append, hp] at this; simp at this
  rw [limbs_step hne]
  have e : (t ++ p).length - 9 = t.length := by simp; omega
  rw [e, List.drop_left, List.take_left]
theorem limbs_short {l : List UInt8} (h : l ≠ []) (hl : l.length ≤ 9) : limbs l = [Nu.val 0 l] := by
  rw [limbs_step h]
  have e : l.length - 9 = 0 := by omega
  rw [e, List.drop_zero, List.take_zero, limbs_nil]
theorem limbs_digs (n : Nat) : ∀ l : List UInt8, l.length ≤ n → digAll l = true → Nt.Digs (limbs l) := by
  induction n with
  | zero =>
    intro l hl _
    obtain rfl : l = [] := List.eq_nil_of_length_eq_zero (by omega)
    rw [limbs_nil]; exact Nt.Digs.nil
  | succ n ih =>
    intro l hl h
    by_cases h0 : l = []
    · rw [h0, limbs_nil]; exact Nt.Digs.nil
    · rw [limbs_step h0]
      intro d hd
      have hpos := List.length_pos_iff.mpr h0
      rcases List.mem_cons.mp hd with rfl | hd
      · exact val_9 _ (digAll_drop _ _ h) (by simp; omega)
      · exact ih _ (by simp; omega) (digAll_take _ _ h) d hd
theorem limbs_ne {l : List UInt8} (h : l ≠ []) : limbs l ≠ [] := by rw [limbs_step h]; simp
theorem limbs_last (n : Nat) : ∀ l : List UInt8, l.length ≤ n → digAll l = true → l ≠ [] → l.head? ≠ some 48 → (limbs l).getLast? ≠ some 0 := by
  induction n with
  | zero => intro l hl _ h0; exact absurd (List.eq_nil_of_length_eq_zero (by omega)) h0
  | succ n ih =>
    intro l hl h h0 hh
    by_cases h9 : l.length ≤ 9
    · rw [limbs_short h0 h9]
      cases l with
      | nil => exact absurd rfl h0
      | cons c r =>
        obtain ⟨hc, _⟩ := Nu.digAll_cons c r h
        have e : Nu.val 0 (c :: r) = Nu.val (0 * 10 + (c.toNat - 48)) r := rfl
        have hge := Nu.val_ge (0 * 10 + (c.toNat - 48)) r
        have hne : c.toNat ≠ 48 := fun e2 => hh (by simp; exact UInt8.toNat_inj.mp (by simpa using e2))
        simp
        omega
    · rw [limbs_step h0]
      have hpos := List.length_pos_iff.mpr h0
      have ht : l.take (l.length - 9) ≠ [] := by intro e; have := congrArg List.length e; simp at this; omega
      have hih := ih (l.take (l.length - 9)) (by simp; omega) (digAll_take _ _ h) ht (by
        rw [List.head?_take, if_neg (by omega)]; exact hh)
      rw [List.getLast?_cons]
      cases hq : (limbs (l.take (l.length - 9))).getLast? with
      | none => rw [List.getLast?_eq_none_iff] at hq; exact absurd hq (limbs_ne ht)
      | some x => rw [hq] at hih; simpa using hih
theorem limbs_len (n : Nat) : ∀ l : List UInt8, l.length ≤ n → 9 * (limbs l).length ≤ l.length + 8 := by
  induction n with
  | zero =>
    intro l hl
    obtain rfl : l = [] := List.eq_nil_of_length_eq_zero (by omega)
    rw [limbs_nil]; simp
  | succ n ih =>
    intro l hl
    by_cases h0 : l = []
    · rw [h0, limbs_nil]; simp
    · have hpos := List.length_pos_iff.mpr h0
      by_cases h9 : l.length ≤ 9
      · rw [limbs_short h0 h9]; simp; omega
      · have := ih (l.take (l.length - 9)) (by simp; omega)
        rw [limbs_step h0, List.length_cons]
        simp at this
        omega
theorem atoi_digits (l : List UInt8) (h : digAll l = true) (h0 : l ≠ []) (hl : l.length ≤ 9) : Lib.atoiAll l = .ok ((Nu.val 0 l : Nat) : Int) := by
  have hv := val_9 l h hl
  have hp : Lib.parseMag l = .ok (Nu.val 0 l) := by
    unfold Lib.parseMag
    rw [if_neg h0, Nu.parse_dec _ _ h (by omega)]
  cases l with
  | nil => exact absurd rfl h0
  | cons c r =>
    obtain ⟨hc, _⟩ := Nu.digAll_cons c r h
    rw [Lib.atoiAll_plain c r (by omega) (by omega), hp]
    simp only [Lib.signless]
    rw [if_neg (by omega)]
/-- What ParseNat answers. -/
def pOk (s : ByteArray) : Bool := digs s && decide (s.size ≤ 540) && (decide (s.size ≤ 1) || decide (s.data.toList.head? ≠ some 48))
def parseN (s : ByteArray) : List Nat := if pOk s = true then Nt.dig (Nt.val (limbs s.data.toList)) else []
theorem parseN_no {s : ByteArray} (h : pOk s = false) : parseN s = [] := by simp [parseN, h]
theorem parseN_yes {s : ByteArray} (h : pOk s = true) : parseN s = Nt.dig (Nt.val (limbs s.data.toList)) := by simp [parseN, h]
theorem pOk_iff {s : ByteArray} : pOk s = true ↔ digs s = true ∧ s.size ≤ 540 ∧ (s.size ≤ 1 ∨ s.data.toList.head? ≠ some 48) := by simp [pOk, and_assoc]
theorem digs_iff {s : ByteArray} : digs s = true ↔ digAll s.data.toList = true ∧ 0 < s.size := by simp [digs]
theorem parseN_len (s : ByteArray) : (parseN s).length ≤ 60 := by
  unfold parseN
  split
  · rename_i h
    obtain ⟨h1, h2, _⟩ := pOk_iff.mp h
    have hl := limbs_len _ s.data.toList (Nat.le_refl _)
    have hs : s.data.toList.length = s.size := by simp
    refine Nt.dig_len (Nat.lt_of_lt_of_le (Nt.val_lt (limbs_digs _ _ (Nat.le_refl _) (digs_iff.mp h1).1)) (Nat.pow_le_pow_right (by decide) (by omega)))
  · simp
/-- Where the first digit is not 0 the limbs are the number's own. -/
theorem parseN_can {s : ByteArray} (h : pOk s = true) (hh : s.data.toList.head? ≠ some 48) : parseN s = limbs s.data.toList ∧ Nt.Canon (limbs s.data.toList) := by
  obtain ⟨h1, _, _⟩ := pOk_iff.mp h
  obtain ⟨h2, h3⟩ := digs_iff.mp h1
  have hne : s.data.toList ≠ [] := by intro e; have : s.data.toList.length = s.size := by simp
                                      rw [e] at this; simp at this; omega
  have hc : Nt.Canon (limbs s.data.toList) := ⟨limbs_digs _ _ (Nat.le_refl _) h2, limbs_last _ _ (Nat.le_refl _) h2 hne hh⟩
  exact ⟨by rw [parseN_yes h, Nt.dig_of_can hc], hc⟩
end Go.Proofs.YtbikkbamcleinaaDoor
