/- Natural numbers are recovered from their text; what the program's functions answer at valid limbs. Conditions: none. -/
import Derived.Test.YtfhndfcncedieaaDoorParseMath
import Derived.Test.YtfhndfcncedieaaDoorNatGcd
namespace Go.Proofs.YtfhndfcncedieaaDoor
open Nt Wm
set_option linter.unusedVariables false

theorem val_zeros10 (k : Nat) (l : List UInt8) : Nu.val 0 (List.replicate k 48 ++ l) = Nu.val 0 l := by
  induction k with
  | zero => rfl
  | succ k ih =>
    rw [List.replicate_succ, List.cons_append]
    have e : Nu.val 0 (48 :: (List.replicate k 48 ++ l)) = Nu.val (0 * 10 + ((48 : UInt8).toNat - 48)) (List.replicate k 48 ++ l) := rfl
    rw [e]
    exact ih
theorem pad9_eq (d : Nat) : pad9 d = List.replicate (9 - (Nu.itoaB (d : Int)).size) 48 ++ Lib.decDigits d := by
  unfold pad9 padz
  rw [if_neg (by omega)]
  have e : ((9 : Int) - ((Nu.itoaB (d : Int)).size : Int)).toNat = 9 - (Nu.itoaB (d : Int)).size := by omega
  simp only [e, Nu.itoaB_data, itoa_nn]
theorem pad9_val (d : Nat) : Nu.val 0 (pad9 d) = d := by rw [pad9_eq, val_zeros10, Nu.dec_val]
theorem zeros_dig (k : Nat) : digAll (List.replicate k 48) = true := by
  simp only [digAll, List.all_eq_true]
  intro x hx
  rw [(List.mem_replicate.mp hx).2]
  decide
theorem pad9_dig (d : Nat) : digAll (pad9 d) = true := by rw [pad9_eq]; exact digAll_app _ _ (zeros_dig _) (Nu.dec_dg d)
theorem low_dig (ds : List Nat) : digAll (low ds) = true := by
  induction ds with
  | nil => rfl
  | cons d ds ih => exact digAll_app _ _ ih (pad9_dig d)
theorem limbs_low (t : List UInt8) (ds : List Nat) (h : Digs ds) : limbs (t ++ low ds) = ds ++ limbs t := by
  induction ds with
  | nil => simp [low]
  | cons d ds ih =>
    rw [low, ← List.append_assoc, limbs_app _ _ (pad9_len d h.head), pad9_val, ih h.tail]
    rfl
theorem dec_head (n : Nat) : ∀ u, u ≤ n → 0 < u → (Lib.decDigits u).head? ≠ some 48 := by
  induction n with
  | zero => intro u h1 h2; omega
  | succ n ih =>
    intro u h1 h2
    by_cases h : u < 10
    · rw [Nu.dec_small u h]
      simp only [List.head?_cons]
      intro e
      have e2 := congrArg UInt8.toNat (Option.some.inj e)
      rw [Nu.ofNat_toNat u h] at e2
      have e3 : (48 : UInt8).toNat = 48 := rfl
      omega
    · rw [Nu.dec_big u h]
      have := ih (u / 10) (by omega) (by omega)
      cases hd : Lib.decDigits (u / 10) with
      | nil => exact absurd hd (Nu.dec_ne _)
      | cons c r => rw [hd] at this; simpa using this
theorem text_back (ds : List Nat) (hc : Canon ds) (hl : ds.length ≤ 60) : pOk (natText ds) = true ∧ parseN (natText ds) = ds ∧ (natText ds).size ≤ 540 := by
  rcases Nat.eq_zero_or_pos ds.length with h0 | h0
  · rw [List.eq_nil_of_length_eq_zero h0]
    have hp : pOk (natText []) = true := by decide
    refine ⟨hp, ?_, by decide⟩
    rw [parseN_yes hp]
    have e : (natText []).data.toList = [48] := rfl
    rw [e, limbs_short (by simp) (by simp)]
    exact dig_zero
  · obtain ⟨k, hk⟩ : ∃ k, ds.length = k + 1 := ⟨ds.length - 1, by omega⟩
    have hx := hc.1.get (show k < ds.length by omega)
    have hxp := canon_top hc k hk
    have hnt := natText_at ds k hk
    obtain ⟨x, hxe⟩ : ∃ x, ds[k]'(by omega) = x := ⟨_, rfl⟩
    rw [hxe] at hx hxp hnt
    have hlist : (natText ds).data.toList = Lib.decDigits x ++ low (ds.take k) := by rw [hnt, itoa_nn]
    have hsz : (natText ds).size = (natText ds).data.toList.length := by simp
    have hlen : (Lib.decDigits x).length ≤ 9 := Nu.dec_len 8 x (by omega)
    have hlow := low_len (ds.take k) (hc.1.take k)
    rw [List.length_take, Nat.min_eq_left (by omega)] at hlow
    have hs540 : (natText ds).size ≤ 540 := by rw [hsz, hlist, List.length_append, hlow]; omega
    have hne := Nu.dec_ne x
    have hdl : 0 < (Lib.decDigits x).length := List.length_pos_iff.mpr hne
    have hhd : (natText ds).data.toList.head? ≠ some 48 := by
      rw [hlist]
      have := dec_head x x (Nat.le_refl _) hxp
      cases hd : Lib.decDigits x with
      | nil => exact absurd hd hne
      | cons c r => rw [hd] at this; simpa using this
    have hdg : digs (natText ds) = true := by
      rw [digs_iff]
      refine ⟨?_, ?_⟩
      · rw [hlist]; exact digAll_app _ _ (Nu.dec_dg x) (low_dig _)
      · rw [hsz, hlist, List.length_append]; omega
    have hp : pOk (natText ds) = true := pOk_iff.mpr ⟨hdg, hs540, .inr hhd⟩
    refine ⟨hp, ?_, hs540⟩
    rw [(parseN_can hp hhd).1, hlist, limbs_low _ _ (hc.1.take k), limbs_short hne hlen, Nu.dec_val, ← hxe]
    have e := List.take_append_getElem (l := ds) (i := k) (by omega)
    rw [e, List.take_of_length_le (by omega)]
/-- The same limbs, as integers. -/
def zi (ds : List Nat) : List Int := ds.map fun d : Nat => (d : Int)
section
variable {a b : Nat} (ha : (dig a).length ≤ 60) (hb : (dig b).length ≤ 60)
include ha hb
theorem quoN_dig : quoN (zi (dig a)) (zi (dig b)) = dig (a / b) := by
  unfold zi
  rw [quoN, if_pos ⟨okI_of_nats (dig_can a) ha, okI_of_nats (dig_can b) hb⟩, toN_nats, toN_nats, val_dig, val_dig]
theorem remN_dig (h : b ≠ 0) : remN (zi (dig a)) (zi (dig b)) = dig (a % b) := by
  unfold zi
  rw [remN, if_pos ⟨okI_of_nats (dig_can a) ha, okI_of_nats (dig_can b) hb, by rw [toN_nats, val_dig]; exact h⟩, toN_nats, toN_nats, val_dig, val_dig]
theorem gcdN_dig : gcdN (zi (dig a)) (zi (dig b)) = dig (Nat.gcd a b) := by
  unfold zi
  rw [gcdN_yes (okI_of_nats (dig_can a) ha) (okI_of_nats (dig_can b) hb), toN_nats, toN_nats, val_dig, val_dig]
theorem mulN_dig (h : a * b < 1000000000 ^ 60) : mulN (zi (dig a)) (zi (dig b)) = dig (a * b) := by
  unfold zi
  rw [mulN_yes (okI_of_nats (dig_can a) ha) (okI_of_nats (dig_can b) hb), toN_nats, toN_nats, val_dig, val_dig, capd_of h]
theorem addN_dig (h : a + b < 1000000000 ^ 60) : addN (zi (dig a)) (zi (dig b)) = dig (a + b) := by
  unfold zi
  rw [addN_yes (okI_of_nats (dig_can a) ha) (okI_of_nats (dig_can b) hb), toN_nats, toN_nats, val_dig, val_dig, capd_of h]
theorem cmpI_dig : cmpI (zi (dig a)) (zi (dig b)) = sgn a b := by
  have h := cmpI_nats (dig a) (dig b) (dig_can a) (dig_can b) ha hb
  rw [val_dig, val_dig] at h
  exact h
end
theorem fmtN_dig {a : Nat} (ha : (dig a).length ≤ 60) : fmtN (zi (dig a)) = natText (dig a) := by
  unfold zi
  rw [fmt_ok (okI_of_nats (dig_can a) ha), toN_nats]
theorem app3_can (ds : List Nat) (h : Canon ds) : Canon (ds ++ [3]) := by
  refine ⟨h.1.app (fun x hx => by simp at hx; omega), ?_⟩
  simp
end Go.Proofs.YtfhndfcncedieaaDoor
