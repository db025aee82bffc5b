/- strings.Cut at a stroke. Conditions: texts of at most 2^20 bytes. -/
import Derived.Test.YtdilgjakodimbaaGreatDoorSplitMath
import Derived.Test.YtdilgjakodimbaaGreatDoorJoinMath
import Derived.Test.YtdilgjakodimbaaGreatDoorMem
import Derived.Lib.Strings
import Derived.Test.YtdilgjakodimbaaGreatDoorNumMath
import Derived.Test.YtdilgjakodimbaaGreatDoorParseMath
import Derived.Test.YtdilgjakodimbaaGreatDoorNatGcd
import Derived.Test.YtdilgjakodimbaaGreatDoorProg
import Derived.Test.YtdilgjakodimbaaGreatDoorRat1
import Derived.Test.YtdilgjakodimbaaGreatDoorBigText
import Derived.Test.YtdilgjakodimbaaGreatDoorShelf
namespace Go.Proofs.YtdilgjakodimbaaGreatDoor
open Sp Jn
theorem ext_data (s : ByteArray) (a b : Nat) : (s.extract a b).data.toList = (s.data.toList.drop a).take (b - a) := Lib.extract_data s a b
theorem ext_succ (s : ByteArray) (a k : Nat) (ha : a ≤ k) (hk : k < s.size) : (s.extract a (k + 1)).data.toList = (s.extract a k).data.toList ++ [s.data.toList.getD k 0] := by
  rw [ext_data, ext_data]
  have hl : k < s.data.toList.length := by simpa using hk
  rw [show k + 1 - a = (k - a) + 1 by omega, List.take_succ_eq_append_getElem (by rw [List.length_drop]; omega)]
  congr 1
  rw [List.getElem_drop, List.getD_eq_getElem?_getD, List.getElem?_eq_getElem hl]
  simp [show a + (k - a) = k by omega]
theorem joinL_last (b : ByteArray) (ps : List ByteArray) (x y : ByteArray) (c : UInt8) (h : y.data.toList = x.data.toList ++ [c]) : joinL b (ps ++ [y]) = joinL b (ps ++ [x]) ++ [c] := by
  by_cases hp : ps = []
  · subst hp; simp [joinL, h]
  · rw [joinL_snoc b ps y hp, joinL_snoc b ps x hp, h]
    simp only [List.append_assoc]
theorem join_scan (s : ByteArray) (c : UInt8) (k : Nat) (hk : k ≤ s.size) : joinL ⟨#[c]⟩ ((scan s ⟨#[c]⟩ k).1 ++ [s.extract (scan s ⟨#[c]⟩ k).2 k]) = s.data.toList.take k := by
  induction k with
  | zero => simp [scan, joinL]
  | succ k ih =>
    have ih := ih (by omega)
    have hle := (scan_le s ⟨#[c]⟩ k).1
    have ht : s.data.toList.take (k + 1) = s.data.toList.take k ++ [s.data.toList.getD k 0] := by
      have hl : k < s.data.toList.length := by simpa using (show k < s.size by omega)
      rw [List.take_succ_eq_append_getElem hl, List.getD_eq_getElem?_getD, List.getElem?_eq_getElem hl]
      rfl
    by_cases hc : cuts ⟨#[c]⟩ (s.data.toList.getD k 0) = true
    · rw [scan_yes s _ k hc]
      have he : s.data.toList.getD k 0 = c := by
        unfold cuts at hc
        rw [show (⟨#[c]⟩ : ByteArray).data.toList = [c] from rfl, List.contains_cons, List.contains_nil, Bool.or_false] at hc
        exact beq_iff_eq.1 hc
      rw [joinL_snoc _ _ _ (by simp), ih, ht, he]
      have h0 : (s.extract (k + 1) (k + 1)).data.toList = [] := by rw [ext_data]; simp
      rw [h0]
      rfl
    · have hc' : cuts ⟨#[c]⟩ (s.data.toList.getD k 0) = false := by simpa using hc
      rw [scan_no s _ k hc', ht, ← ih]
      exact joinL_last _ _ _ _ _ (ext_succ s _ k hle (by omega))
theorem join_parts (s : ByteArray) (c : UInt8) : join ⟨#[c]⟩ (parts s ⟨#[c]⟩) = s := by
  apply bytes_ext
  unfold join parts
  have h := join_scan s c s.size (Nat.le_refl _)
  simp only [h]
  have e : s.data.toList.length = s.size := by simp
  rw [List.take_of_length_le (by omega)]
end Go.Proofs.YtdilgjakodimbaaGreatDoor
namespace Go.Proofs.YtdilgjakodimbaaGreatDoor
open Sp Jn Wm
set_option linter.unusedVariables false

theorem cut_same {c : UInt8} {a b r q : List UInt8} (ha : c ∉ a) (hb : c ∉ b) (h : a ++ c :: r = b ++ c :: q) : a = b ∧ r = q := by
  induction a generalizing b with
  | nil =>
    cases b with
    | nil => simpa using h
    | cons y b => simp at h; exact absurd h.1 (by intro e; subst e; simp at hb)
  | cons x a ih =>
    cases b with
    | nil => simp at h; exact absurd h.1.symm (by intro e; subst e; simp at ha)
    | cons y b =>
      simp only [List.cons_append, List.cons.injEq] at h
      simp only [List.mem_cons, not_or] at ha hb
      obtain ⟨e1, e2⟩ := ih ha.2 hb.2 h.2
      exact ⟨by rw [h.1, e1], e2⟩
theorem cut_not {c : UInt8} {a b r : List UInt8} (hb : c ∉ b) : a ++ c :: r ≠ b := by
  intro h
  apply hb
  rw [← h]
  simp
theorem joinL_two (c : UInt8) (x y : ByteArray) (r : List ByteArray) : joinL ⟨#[c]⟩ (x :: y :: r) = x.data.toList ++ c :: joinL ⟨#[c]⟩ (y :: r) := rfl
theorem three_parts {c : UInt8} {ps : List ByteArray} {x y z : ByteArray} (hf : ∀ p ∈ ps, c ∉ p.data.toList) (hx : c ∉ x.data.toList) (hy : c ∉ y.data.toList) (hz : c ∉ z.data.toList)
    (h : joinL ⟨#[c]⟩ ps = x.data.toList ++ c :: (y.data.toList ++ c :: z.data.toList)) : ps = [x, y, z] := by
  match ps, hf, h with
  | [], _, h => exact absurd h.symm (cut_not (by simp [joinL]))
  | [p], hf, h => exact absurd h.symm (cut_not (by simpa [joinL] using hf))
  | [p, q], hf, h =>
    rw [joinL_two] at h
    obtain ⟨_, e2⟩ := cut_same (hf p (by simp)) hx h
    exact absurd e2.symm (cut_not (by simpa [joinL] using hf q (by simp)))
  | p :: q :: r :: t, hf, h =>
    rw [joinL_two] at h
    obtain ⟨e1, e2⟩ := cut_same (hf p (by simp)) hx h
    rw [joinL_two] at e2
    obtain ⟨e3, e4⟩ := cut_same (hf q (by simp)) hy e2
    obtain rfl : p = x := bytes_ext e1
    obtain rfl : q = y := bytes_ext e3
    cases t with
    | nil =>
      obtain rfl : r = z := bytes_ext e4
      rfl
    | cons t1 t2 =>
      rw [joinL_two] at e4
      exact absurd e4 (cut_not hz)
theorem scan_free (s : ByteArray) (c : UInt8) (k : Nat) (hk : k ≤ s.size) : (∀ p ∈ (scan s ⟨#[c]⟩ k).1, c ∉ p.data.toList) ∧ c ∉ (s.extract (scan s ⟨#[c]⟩ k).2 k).data.toList := by
  induction k with
  | zero => simp [scan]
  | succ k ih =>
    obtain ⟨h1, h2⟩ := ih (by omega)
    have hle := (scan_le s ⟨#[c]⟩ k).1
    by_cases hc : cuts ⟨#[c]⟩ (s.data.toList.getD k 0) = true
    · rw [scan_yes s _ k hc]
      refine ⟨fun p hp => ?_, ?_⟩
      · rcases List.mem_append.mp hp with hp | hp
        · exact h1 p hp
        · obtain rfl := List.mem_singleton.mp hp
          exact h2
      · have h0 : (s.extract (k + 1) (k + 1)).data.toList = [] := by rw [ext_data]; simp
        rw [h0]
        simp
    · have hc' : cuts ⟨#[c]⟩ (s.data.toList.getD k 0) = false := by simpa using hc
      rw [scan_no s _ k hc']
      refine ⟨h1, ?_⟩
      rw [ext_succ s _ k hle (by omega)]
      intro hm
      rcases List.mem_append.mp hm with hm | hm
      · exact h2 hm
      · have e := List.mem_singleton.mp hm
        unfold cuts at hc'
        rw [show (⟨#[c]⟩ : ByteArray).data.toList = [c] from rfl, List.contains_cons, List.contains_nil, Bool.or_false, ← e] at hc'
        simp at hc'
theorem parts_free (s : ByteArray) (c : UInt8) : ∀ p ∈ parts s ⟨#[c]⟩, c ∉ p.data.toList := by
  obtain ⟨h1, h2⟩ := scan_free s c s.size (Nat.le_refl _)
  intro p hp
  rcases List.mem_append.mp hp with hp | hp
  · exact h1 p hp
  · obtain rfl := List.mem_singleton.mp hp
    exact h2
theorem parts_three {c : UInt8} {x y z : ByteArray} (hx : c ∉ x.data.toList) (hy : c ∉ y.data.toList) (hz : c ∉ z.data.toList) : parts (x ++ ⟨#[c]⟩ ++ y ++ ⟨#[c]⟩ ++ z) ⟨#[c]⟩ = [x, y, z] := by
  refine three_parts (parts_free _ c) hx hy hz ?_
  have h := congrArg (·.data.toList) (join_parts (x ++ ⟨#[c]⟩ ++ y ++ ⟨#[c]⟩ ++ z) c)
  have e : (join ⟨#[c]⟩ (parts (x ++ ⟨#[c]⟩ ++ y ++ ⟨#[c]⟩ ++ z) ⟨#[c]⟩)).data.toList = joinL ⟨#[c]⟩ (parts (x ++ ⟨#[c]⟩ ++ y ++ ⟨#[c]⟩ ++ z) ⟨#[c]⟩) := by simp [join]
  rw [← e]
  rw [h]
  simp
theorem parts_back {c : UInt8} {s x y z : ByteArray} (h : parts s ⟨#[c]⟩ = [x, y, z]) : s = x ++ ⟨#[c]⟩ ++ y ++ ⟨#[c]⟩ ++ z := by
  have e := join_parts s c
  rw [h] at e
  rw [← e]
  apply bytes_ext
  simp [join, joinL]
theorem dig_free {l : List UInt8} (h : digAll l = true) : (44 : UInt8) ∉ l := by
  intro hm
  have := List.all_eq_true.mp h 44 hm
  simp [dg] at this
theorem itoa_free (n : Int) : (44 : UInt8) ∉ (Nu.itoaB n).data.toList := by
  rw [Nu.itoaB_data]
  unfold Lib.itoa
  split
  · intro hm
    rcases List.mem_cons.mp hm with e | e
    · exact absurd e (by decide)
    · exact dig_free (Nu.dec_dg _) e
  · exact dig_free (Nu.dec_dg _)
end Go.Proofs.YtdilgjakodimbaaGreatDoor
namespace Go.Proofs.YtdilgjakodimbaaGreatDoor
open Nt Wm
set_option linter.unusedVariables false

theorem val_zeros10 (k : Nat) (l : List UInt8) : Nu.val 0 (List.replicate k 48 ++ l) = Nu.val 0 l := by
  induction k with
  | zero => rfl
  | succ k ih =>
    rw [List.replicate_succ, List.cons_append]
    have e : Nu.val 0 (48 :: (List.replicate k 48 ++ l)) = Nu.val (0 * 10 + ((48 : UInt8).toNat - 48)) (List.replicate k 48 ++ l) := rfl
    rw [e]
    exact ih
theorem pad9_eq (d : Nat) : pad9 d = List.replicate (9 - (Nu.itoaB (d : Int)).size) 48 ++ Lib.decDigits d := by
  unfold pad9 padz
  rw [if_neg (by omega)]
  have e : ((9 : Int) - ((Nu.itoaB (d : Int)).size : Int)).toNat = 9 - (Nu.itoaB (d : Int)).size := by omega
  simp only [e, Nu.itoaB_data, itoa_nn]
theorem pad9_val (d : Nat) : Nu.val 0 (pad9 d) = d := by rw [pad9_eq, val_zeros10, Nu.dec_val]
theorem zeros_dig (k : Nat) : digAll (List.replicate k 48) = true := by
  simp only [digAll, List.all_eq_true]
  intro x hx
  rw [(List.mem_replicate.mp hx).2]
  decide
theorem pad9_dig (d : Nat) : digAll (pad9 d) = true := by rw [pad9_eq]; exact digAll_app _ _ (zeros_dig _) (Nu.dec_dg d)
theorem low_dig (ds : List Nat) : digAll (low ds) = true := by
  induction ds with
  | nil => rfl
  | cons d ds ih => exact digAll_app _ _ ih (pad9_dig d)
theorem limbs_low (t : List UInt8) (ds : List Nat) (h : Digs ds) : limbs (t ++ low ds) = ds ++ limbs t := by
  induction ds with
  | nil => simp [low]
  | cons d ds ih =>
    rw [low, ← List.append_assoc, limbs_app _ _ (pad9_len d h.head), pad9_val, ih h.tail]
    rfl
theorem dec_head (n : Nat) : ∀ u, u ≤ n → 0 < u → (Lib.decDigits u).head? ≠ some 48 := by
  induction n with
  | zero => intro u h1 h2; omega
  | succ n ih =>
    intro u h1 h2
    by_cases h : u < 10
    · rw [Nu.dec_small u h]
      simp only [List.head?_cons]
      intro e
      have e2 := congrArg UInt8.toNat (Option.some.inj e)
      rw [Nu.ofNat_toNat u h] at e2
      have e3 : (48 : UInt8).toNat = 48 := rfl
      omega
    · rw [Nu.dec_big u h]
      have := ih (u / 10) (by omega) (by omega)
      cases hd : Lib.decDigits (u / 10) with
      | nil => exact absurd hd (Nu.dec_ne _)
      | cons c r => rw [hd] at this; simpa using this
theorem text_back (ds : List Nat) (hc : Canon ds) (hl : ds.length ≤ 60) : pOk (natText ds) = true ∧ parseN (natText ds) = ds ∧ (natText ds).size ≤ 540 := by
  rcases Nat.eq_zero_or_pos ds.length with h0 | h0
  · rw [List.eq_nil_of_length_eq_zero h0]
    have hp : pOk (natText []) = true := by decide
    refine ⟨hp, ?_, by decide⟩
    rw [parseN_yes hp]
    have e : (natText []).data.toList = [48] := rfl
    rw [e, limbs_short (by simp) (by simp)]
    exact dig_zero
  · obtain ⟨k, hk⟩ : ∃ k, ds.length = k + 1 := ⟨ds.length - 1, by omega⟩
    have hx := hc.1.get (show k < ds.length by omega)
    have hxp := canon_top hc k hk
    have hnt := natText_at ds k hk
    obtain ⟨x, hxe⟩ : ∃ x, ds[k]'(by omega) = x := ⟨_, rfl⟩
    rw [hxe] at hx hxp hnt
    have hlist : (natText ds).data.toList = Lib.decDigits x ++ low (ds.take k) := by rw [hnt, itoa_nn]
    have hsz : (natText ds).size = (natText ds).data.toList.length := by simp
    have hlen : (Lib.decDigits x).length ≤ 9 := Nu.dec_len 8 x (by omega)
    have hlow := low_len (ds.take k) (hc.1.take k)
    rw [List.length_take, Nat.min_eq_left (by omega)] at hlow
    have hs540 : (natText ds).size ≤ 540 := by rw [hsz, hlist, List.length_append, hlow]; omega
    have hne := Nu.dec_ne x
    have hdl : 0 < (Lib.decDigits x).length := List.length_pos_iff.mpr hne
    have hhd : (natText ds).data.toList.head? ≠ some 48 := by
      rw [hlist]
      have := dec_head x x (Nat.le_refl _) hxp
      cases hd : Lib.decDigits x with
      | nil => exact absurd hd hne
      | cons c r => rw [hd] at this; simpa using this
    have hdg : digs (natText ds) = true := by
      rw [digs_iff]
      refine ⟨?_, ?_⟩
      · rw [hlist]; exact digAll_app _ _ (Nu.dec_dg x) (low_dig _)
      · rw [hsz, hlist, List.length_append]; omega
    have hp : pOk (natText ds) = true := pOk_iff.mpr ⟨hdg, hs540, .inr hhd⟩
    refine ⟨hp, ?_, hs540⟩
    rw [(parseN_can hp hhd).1, hlist, limbs_low _ _ (hc.1.take k), limbs_short hne hlen, Nu.dec_val, ← hxe]
    have e := List.take_append_getElem (l := ds) (i := k) (by omega)
    rw [e, List.take_of_length_le (by omega)]
/-- The same limbs, as integers. -/
def zi (ds : List Nat) : List Int := ds.map fun d : Nat => (d : Int)
section
variable {a b : Nat} (ha : (dig a).length ≤ 60) (hb : (dig b).length ≤ 60)
include ha hb
theorem quoN_dig : quoN (zi (dig a)) (zi (dig b)) = dig (a / b) := by
  unfold zi
  rw [quoN, if_pos ⟨okI_of_nats (dig_can a) ha, okI_of_nats (dig_can b) hb⟩, toN_nats, toN_nats, val_dig, val_dig]
theorem remN_dig (h : b ≠ 0) : remN (zi (dig a)) (zi (dig b)) = dig (a % b) := by
  unfold zi
  rw [remN, if_pos ⟨okI_of_nats (dig_can a) ha, okI_of_nats (dig_can b) hb, by rw [toN_nats, val_dig]; exact h⟩, toN_nats, toN_nats, val_dig, val_dig]
theorem gcdN_dig : gcdN (zi (dig a)) (zi (dig b)) = dig (Nat.gcd a b) := by
  unfold zi
  rw [gcdN_yes (okI_of_nats (dig_can a) ha) (okI_of_nats (dig_can b) hb), toN_nats, toN_nats, val_dig, val_dig]
theorem mulN_dig (h : a * b < 1000000000 ^ 60) : mulN (zi (dig a)) (zi (dig b)) = dig (a * b) := by
  unfold zi
  rw [mulN_yes (okI_of_nats (dig_can a) ha) (okI_of_nats (dig_can b) hb), toN_nats, toN_nats, val_dig, val_dig, capd_of h]
theorem addN_dig (h : a + b < 1000000000 ^ 60) : addN (zi (dig a)) (zi (dig b)) = dig (a + b) := by
  unfold zi
  rw [addN_yes (okI_of_nats (dig_can a) ha) (okI_of_nats (dig_can b) hb), toN_nats, toN_nats, val_dig, val_dig, capd_of h]
theorem cmpI_dig : cmpI (zi (dig a)) (zi (dig b)) = sgn a b := by
  have h := cmpI_nats (dig a) (dig b) (dig_can a) (dig_can b) ha hb
  rw [val_dig, val_dig] at h
  exact h
end
theorem fmtN_dig {a : Nat} (ha : (dig a).length ≤ 60) : fmtN (zi (dig a)) = natText (dig a) := by
  unfold zi
  rw [fmt_ok (okI_of_nats (dig_can a) ha), toN_nats]
theorem app3_can (ds : List Nat) (h : Canon ds) : Canon (ds ++ [3]) := by
  refine ⟨h.1.app (fun x hx => by simp at hx; omega), ?_⟩
  simp
end Go.Proofs.YtdilgjakodimbaaGreatDoor
namespace Go.Proofs.YtdilgjakodimbaaGreatDoor
open Nt Wm
set_option linter.unusedVariables false

theorem Nu_val_snoc (l : List UInt8) (c : UInt8) : Nu.val 0 (l ++ [c]) = Nu.val 0 l * 10 + (c.toNat - 48) := by rw [Nu.val_append]; rfl
theorem digAll_mem {l : List UInt8} (h : digAll l = true) {c : UInt8} (hc : c ∈ l) : 48 ≤ c.toNat ∧ c.toNat ≤ 57 := by
  induction l with
  | nil => simp at hc
  | cons a r ih =>
    have h2 := Nu.digAll_cons a r h
    rcases List.mem_cons.mp hc with e | e
    · subst e; exact h2.1
    · exact ih h2.2 e
theorem val_head_pos {l : List UInt8} (h : digAll l = true) (h0 : l ≠ []) (hh : l.head? ≠ some 48) : 0 < Nu.val 0 l := by
  cases l with
  | nil => exact absurd rfl h0
  | cons c r =>
    have h1 := (Nu.digAll_cons c r h).1
    have h2 : c.toNat ≠ 48 := by
      intro e
      apply hh
      simp only [List.head?_cons, Option.some.injEq]
      exact UInt8.toNat_inj.mp e
    have e : Nu.val 0 (c :: r) = Nu.val (0 * 10 + (c.toNat - 48)) r := rfl
    rw [e]
    have := Nu.val_ge (0 * 10 + (c.toNat - 48)) r
    omega
theorem dec_one (c : UInt8) (h : 48 ≤ c.toNat ∧ c.toNat ≤ 57) : Lib.decDigits (c.toNat - 48) = [c] := by
  rw [Nu.dec_small _ (by omega)]
  congr 1
  apply UInt8.toNat_inj.mp
  rw [Nu.ofNat_toNat _ (by omega)]
  omega
theorem dec_back (n : Nat) : ∀ l : List UInt8, l.length = n → digAll l = true → l ≠ [] → l.head? ≠ some 48 → Lib.decDigits (Nu.val 0 l) = l := by
  induction n with
  | zero => intro l h1 h2 h3; exact absurd (List.eq_nil_of_length_eq_zero h1) h3
  | succ n ih =>
    intro l h1 h2 h3 h4
    obtain ⟨r, c, rfl⟩ : ∃ r c, l = r ++ [c] := ⟨l.dropLast, l.getLast h3, (List.dropLast_concat_getLast h3).symm⟩
    have hc := digAll_mem h2 (c := c) (by simp)
    rw [Nu_val_snoc]
    by_cases hr : r = []
    · subst hr
      have e : Nu.val 0 ([] : List UInt8) = 0 := rfl
      rw [e]
      simpa using dec_one c hc
    · have hd : digAll r = true := by
        have := digAll_take (r ++ [c]) r.length h2
        simpa using this
      have hh : r.head? ≠ some 48 := by
        cases r with
        | nil => exact absurd rfl hr
        | cons a q => simpa using h4
      have hp := val_head_pos hd hr hh
      rw [Nu.dec_big _ (by omega)]
      have e1 : (Nu.val 0 r * 10 + (c.toNat - 48)) / 10 = Nu.val 0 r := by omega
      have e2 : (Nu.val 0 r * 10 + (c.toNat - 48)) % 10 = c.toNat - 48 := by omega
      rw [e1, e2, ih r (by simpa using h1) hd hr hh]
      congr 2
      apply UInt8.toNat_inj.mp
      rw [Nu.ofNat_toNat _ (by omega)]
      omega
theorem dec_zeros (l : List UInt8) : digAll l = true → l ≠ [] → ∃ k, l = List.replicate k 48 ++ Lib.decDigits (Nu.val 0 l) := by
  induction l with
  | nil => intro _ h; exact absurd rfl h
  | cons c r ih =>
    intro h _
    have h1 := Nu.digAll_cons c r h
    by_cases hc : c = 48
    · subst hc
      by_cases hr : r = []
      · subst hr
        refine ⟨0, ?_⟩
        have := dec_one 48 (by decide)
        have e : Nu.val 0 [48] = (48 : UInt8).toNat - 48 := rfl
        rw [e, this]
        rfl
      · obtain ⟨k, hk⟩ := ih h1.2 hr
        have e : Nu.val 0 (48 :: r) = Nu.val 0 r := rfl
        refine ⟨k + 1, ?_⟩
        rw [e, List.replicate_succ, List.cons_append, ← hk]
    · refine ⟨0, ?_⟩
      have := dec_back _ (c :: r) rfl h (by simp) (by simpa using hc)
      rw [this]
      rfl
theorem pad9_back (p : List UInt8) (h : digAll p = true) (hl : p.length = 9) : pad9 (Nu.val 0 p) = p := by
  obtain ⟨k, hk⟩ := dec_zeros p h (by intro e; rw [e] at hl; simp at hl)
  rw [pad9_eq]
  have hs : (Nu.itoaB ((Nu.val 0 p : Nat) : Int)).size = (Lib.decDigits (Nu.val 0 p)).length := by
    rw [← itoa_nn, ← Nu.itoaB_data]; simp
  have hlen := congrArg List.length hk
  rw [hl, List.length_append, List.length_replicate] at hlen
  rw [hs, show 9 - (Lib.decDigits (Nu.val 0 p)).length = k by omega]
  exact hk.symm
theorem natText_cons (x : Nat) (ds : List Nat) (h : ds ≠ []) : (natText (x :: ds)).data.toList = (natText ds).data.toList ++ pad9 x := by
  obtain ⟨k, hk⟩ : ∃ k, ds.length = k + 1 := ⟨ds.length - 1, by have := List.length_pos_iff.mpr h; omega⟩
  rw [natText_at ds k hk, natText_at (x :: ds) (k + 1) (by simp [hk])]
  simp [low]
theorem limbs_back (n : Nat) : ∀ l : List UInt8, l.length ≤ n → digAll l = true → l ≠ [] → l.head? ≠ some 48 → (natText (limbs l)).data.toList = l := by
  induction n with
  | zero => intro l h1 h2 h3; exact absurd (List.eq_nil_of_length_eq_zero (by omega)) h3
  | succ n ih =>
    intro l h1 h2 h3 h4
    by_cases h9 : l.length ≤ 9
    · rw [limbs_short h3 h9, natText_at [Nu.val 0 l] 0 rfl]
      simp [low]
      rw [itoa_nn]
      exact dec_back _ l rfl h2 h3 h4
    · rw [limbs_step h3]
      have ht : l.take (l.length - 9) ≠ [] := by
        intro e
        have := congrArg List.length e
        rw [List.length_take] at this
        simp at this
        omega
      rw [natText_cons _ _ (limbs_ne ht), ih _ (by rw [List.length_take]; omega) (digAll_take _ _ h2) ht ?_, pad9_back _ (digAll_drop _ _ h2) (by rw [List.length_drop]; omega), List.take_append_drop]
      cases l with
      | nil => exact absurd rfl h3
      | cons a q =>
        obtain ⟨j, hj⟩ : ∃ j, (a :: q).length - 9 = j + 1 := ⟨(a :: q).length - 10, by omega⟩
        rw [hj, List.take_succ_cons]
        simpa using h4
theorem bytes_eq2 {s t : ByteArray} (h : s.data.toList = t.data.toList) : s = t := by
  cases s; cases t
  congr 1
  exact Array.toList_inj.mp h
/-- Parsed and written again: the same text. -/
theorem back_text {s : ByteArray} (h : pOk s = true) : natText (parseN s) = s := by
  obtain ⟨hd, h540, hz⟩ := pOk_iff.mp h
  obtain ⟨hda, hsz⟩ := digs_iff.mp hd
  have hne : s.data.toList ≠ [] := by
    intro e
    have h3 : s.data.toList.length = s.size := by simp
    rw [e, List.length_nil] at h3
    omega
  by_cases hh : s.data.toList.head? = some 48
  · have h1 : s.data.toList.length = 1 := by
      have h2 : s.size ≤ 1 := by rcases hz with hz | hz; exact hz; exact absurd hh hz
      have h3 : s.data.toList.length = s.size := by simp
      omega
    obtain ⟨c, hc⟩ := List.length_eq_one_iff.mp h1
    rw [hc] at hh
    simp at hh
    subst hh
    apply bytes_eq2
    rw [parseN_yes h, hc, limbs_short (by simp) (by simp)]
    have e : Nu.val 0 [48] = 0 := rfl
    rw [e]
    have e2 : Nt.val [0] = 0 := rfl
    rw [e2, dig_zero]
    rfl
  · apply bytes_eq2
    rw [(parseN_can h hh).1]
    exact limbs_back _ _ (Nat.le_refl _) hda hne hh
end Go.Proofs.YtdilgjakodimbaaGreatDoor
namespace Go.Proofs.YtdilgjakodimbaaGreatDoor
open Go.RowKit Nt
set_option linter.unusedVariables false

/-- What FormatRat answers. -/
def fmtR (s : Bool) (xs ys : List Int) : ByteArray := if okR s xs ys = true then (if isOne (toN ys) = true then fmtB s xs else fmtB s xs ++ ⟨#[47]⟩ ++ fmtN ys) else ⟨#[]⟩
theorem fmtR_no {s : Bool} {xs ys : List Int} (h : okR s xs ys = false) : fmtR s xs ys = ⟨#[]⟩ := by simp [fmtR, h]
theorem fmtR_one {s : Bool} {xs ys : List Int} (h : okR s xs ys = true) (h1 : isOne (toN ys) = true) : fmtR s xs ys = fmtB s xs := by simp [fmtR, h, h1]
theorem fmtR_two {s : Bool} {xs ys : List Int} (h : okR s xs ys = true) (h1 : isOne (toN ys) = false) : fmtR s xs ys = fmtB s xs ++ ⟨#[47]⟩ ++ fmtN ys := by simp [fmtR, h, h1]
theorem fmtB_size (s : Bool) (xs : List Int) : (fmtB s xs).size ≤ 601 := by
  have h := fmtN_size xs
  unfold fmtB
  split
  · split
    · rw [ByteArray.size_append]
      have : (⟨#[45]⟩ : ByteArray).size = 1 := rfl
      omega
    · omega
  · exact Nat.zero_le _
set_option maxRecDepth 100000 in
set_option maxHeartbeats 4000000 in
theorem formatRat_spec (s : Bool) (A : Option Addr) (n c : Nat) (xs : List Int) (B : Option Addr) (m d : Nat) (ys : List Int) (w : World) (hA : Arg w A n c (ints xs)) (hB : Arg w B m d (ints ys)) :
    Calls Tryz.prog 12 #[.agg #[.bool s, .slice A n c, .slice B m d]] w fun e w' => e = .returned (.string (fmtR s xs ys)) ∧ Below w.heap.size w w' := by
  have HA := Lib.hid hA
  have HB := Lib.hid hB
  clear hA hB
  have HS1 := Lib.hid (fmtB_size s xs)
  have HS2 := Lib.hid (fmtN_size ys)
  obtain ⟨T1, hT1⟩ : ∃ y9, fmtB s xs = y9 := ⟨_, rfl⟩
  obtain ⟨T2, hT2⟩ : ∃ y9, fmtN ys = y9 := ⟨_, rfl⟩
  rw [hT1] at HS1
  rw [hT2] at HS2
  have HT1 := Lib.hid hT1
  have HT2 := Lib.hid hT2
  clear hT1 hT2
  go_enter Tryz.func12, Tryz.ntmps12
  have HB_0 := Lib.hid ((Below.refl w.heap.size w).alloc (Nat.le_refl _) (.cells #[.bool s, .slice A n c, .slice B m d] 26))
  have K_a_0 := Lib.hid (HeldL.new_at w (w.heap.size) [.bool s, .slice A n c, .slice B m d] 26 (by first | rfl | simp))
  go_wp2_with fail
  refine (ratOk_spec s A n c xs B m d ys _ (HA.out.below HB_0.out (Nat.le_refl _)) (HB.out.below HB_0.out (Nat.le_refl _))).mono ?_
  rintro e w1 ⟨rfl, hb⟩
  have K_a_1 := Lib.hid (K_a_0.out.after hb)
  have HB_1 := Lib.hid (HB_0.out.trans (hb.mono HB_0.out.size))
  clear hb
  by_cases hok : okR s xs ys = true
  · rw [hok]
    obtain ⟨hex, hey, hval⟩ := okR_nats hok
    have HAn := Lib.hid (hex ▸ HA.out)
    have HBn := Lib.hid (hey ▸ HB.out)
    have HV := Lib.hid hval
    have HOK := Lib.hid hok
    clear hex hey hval hok
    have hk_a_0_1 := K_a_1.out.cell 0 _ rfl
    have hk_a_1_1 := K_a_1.out.cell 1 _ rfl
    have hk_a_2_1 := K_a_1.out.cell 2 _ rfl
    go_wp2_with fail
    refine (l04One_any B m d (toN ys) _ (HBn.out.below HB_1.out (Nat.le_refl _)).1 HB.out.max).mono ?_
    rintro e w2 ⟨rfl, hw⟩
    obtain rfl := hw.symm
    clear hk_a_0_1
    clear hk_a_1_1
    clear hk_a_2_1
    by_cases h1 : isOne (toN ys) = true
    · rw [h1]
      have HE := Lib.hid ((fmtR_one HOK.out h1).trans HT1.out)
      clear h1
      have hk_a_0_1 := K_a_1.out.cell 0 _ rfl
      have hk_a_1_1 := K_a_1.out.cell 1 _ rfl
      have hk_a_2_1 := K_a_1.out.cell 2 _ rfl
      go_wp2_with fail
      refine (formatBigInt_spec s A n c xs _ (HA.out.below HB_1.out (Nat.le_refl _)).1 HA.out.max).mono ?_
      rintro e w3 ⟨rfl, hb⟩
      have K_a_2 := Lib.hid (K_a_1.out.after hb)
      have HB_2 := Lib.hid (HB_1.out.trans (hb.mono HB_1.out.size))
      clear hb
      clear hk_a_0_1
      clear hk_a_1_1
      clear hk_a_2_1
      rw [HT1.out]
      go_wp2
      go_ret
      exact ⟨by rw [HE.out]; rfl, HB_2.out⟩
    · rw [Bool.not_eq_true] at h1
      rw [h1]
      have HE := Lib.hid (show fmtR s xs ys = T1 ++ ⟨#[47]⟩ ++ T2 by rw [fmtR_two HOK.out h1, HT1.out, HT2.out])
      clear h1
      have hz1 : ¬ (9223372036854775807 < T1.size + 1) := by have := HS1.out; omega
      have hz2 : ¬ (9223372036854775807 < T1.size + 1 + T2.size) := by have := HS1.out; have := HS2.out; omega
      have hk_a_0_1 := K_a_1.out.cell 0 _ rfl
      have hk_a_1_1 := K_a_1.out.cell 1 _ rfl
      have hk_a_2_1 := K_a_1.out.cell 2 _ rfl
      go_wp2
      go_region_held3 (fun w' => w'.cell? ⟨w.heap.size, 0, none⟩ = some (.bool s) ∧ w'.cell? ⟨w.heap.size, 1, none⟩ = some (.slice A n c) ∧ w'.cell? ⟨w.heap.size, 2, none⟩ = some (.slice B m d)) (go_keep)
        (first
          | (go_at_call 29
             refine (formatBigInt_spec s A n c xs _ (HA.out.below HB_1.out.drew (Nat.le_refl _)).1 HA.out.max).mono ?_
             rintro e w3 ⟨rfl, hb⟩
             rw [HT1.out]
             have K_a_2 := Lib.hid (K_a_1.out.drew.after hb)
             have HB_2 := Lib.hid (HB_1.out.drew.trans (hb.mono HB_1.out.drew.size))
             clear hb
             have hk_a_0_2 := K_a_2.out.cell 0 _ rfl
             have hk_a_1_2 := K_a_2.out.cell 1 _ rfl
             have hk_a_2_2 := K_a_2.out.cell 2 _ rfl)
          | (go_at_call 30
             refine (formatNat_spec B m d ys _ (HB.out.below HB_2.out (Nat.le_refl _)).1 HB.out.max).mono ?_
             rintro e w4 ⟨rfl, hb⟩
             rw [HT2.out]
             have K_a_3 := Lib.hid (K_a_2.out.after hb)
             have HB_3 := Lib.hid (HB_2.out.trans (hb.mono HB_2.out.size))
             clear hb
             have hk_a_0_3 := K_a_3.out.cell 0 _ rfl
             have hk_a_1_3 := K_a_3.out.cell 1 _ rfl
             have hk_a_2_3 := K_a_3.out.cell 2 _ rfl))
      all_goals go_wp2
      all_goals go_ret
      all_goals exact ⟨by rw [HE.out]; rfl, HB_3.out⟩
  · rw [Bool.not_eq_true] at hok
    rw [hok]
    have HE := Lib.hid (fmtR_no hok)
    clear hok
    go_wp2
    go_ret
    exact ⟨by rw [HE.out]; rfl, HB_1.out⟩
end Go.Proofs.YtdilgjakodimbaaGreatDoor
namespace Go.Proofs.YtdilgjakodimbaaGreatDoor
open Go.RowKit Nt Sp Jn Wm
set_option linter.unusedVariables false

/-- What stands before the first stroke, what behind it, and whether there is one. -/
def hdT (s : ByteArray) : ByteArray := (parts s ⟨#[47]⟩).headD ⟨#[]⟩
def tlT (s : ByteArray) : ByteArray := join ⟨#[47]⟩ (parts s ⟨#[47]⟩).tail
def dvT (s : ByteArray) : Bool := decide (1 < (parts s ⟨#[47]⟩).length)
theorem parts_ne (s b : ByteArray) : parts s b ≠ [] := by simp [parts]
theorem hd_free (s : ByteArray) : (47 : UInt8) ∉ (hdT s).data.toList := by
  unfold hdT
  cases h : parts s ⟨#[47]⟩ with
  | nil => exact absurd h (parts_ne s _)
  | cons x r => exact parts_free s 47 x (by rw [h]; simp)
theorem cut_back {s : ByteArray} (h : dvT s = true) : s = hdT s ++ ⟨#[47]⟩ ++ tlT s := by
  have e := join_parts s 47
  unfold dvT at h
  unfold hdT tlT
  cases hp : parts s ⟨#[47]⟩ with
  | nil => exact absurd hp (parts_ne s _)
  | cons x r =>
    cases r with
    | nil => rw [hp] at h; simp at h
    | cons y r =>
      rw [hp] at e
      conv => lhs; rw [← e]
      apply bytes_ext
      simp [join, joinL]
theorem whole_back {s : ByteArray} (h : dvT s = false) : s = hdT s := by
  have e := join_parts s 47
  unfold dvT at h
  unfold hdT
  cases hp : parts s ⟨#[47]⟩ with
  | nil => exact absurd hp (parts_ne s _)
  | cons x r =>
    cases r with
    | nil =>
      rw [hp] at e
      conv => lhs; rw [← e]
      apply bytes_ext
      simp [join, joinL]
    | cons y r => rw [hp] at h; simp at h
theorem split_at {a b : ByteArray} : (a ++ ⟨#[47]⟩ ++ b).data.toList = a.data.toList ++ 47 :: b.data.toList := by simp
theorem cut_is {s a b : ByteArray} (hs : s = a ++ ⟨#[47]⟩ ++ b) (ha : (47 : UInt8) ∉ a.data.toList) : hdT s = a ∧ tlT s = b ∧ dvT s = true := by
  have hd : dvT s = true := by
    cases h : dvT s with
    | true => rfl
    | false =>
      have e := whole_back h
      have hf := hd_free s
      rw [← e, hs, split_at] at hf
      simp at hf
  have e := cut_back hd
  have e2 : a.data.toList ++ 47 :: b.data.toList = (hdT s).data.toList ++ 47 :: (tlT s).data.toList := by rw [← split_at, ← split_at, ← hs]; exact congrArg (·.data.toList) e
  obtain ⟨e3, e4⟩ := cut_same ha (hd_free s) e2
  exact ⟨(bytes_ext e3).symm, (bytes_ext e4).symm, hd⟩
theorem cut_none {s : ByteArray} (h : (47 : UInt8) ∉ s.data.toList) : hdT s = s ∧ dvT s = false := by
  have hd : dvT s = false := by
    cases hd : dvT s with
    | false => rfl
    | true =>
      exfalso
      apply h
      rw [cut_back hd, split_at]
      simp
  exact ⟨(whole_back hd).symm, hd⟩
/-- Integers of limbs. -/
def toI (l : List Nat) : List Int := l.map fun d : Nat => (d : Int)
theorem nats_toI (l : List Nat) : nats l = ints (toI l) := rfl
theorem toN_toI (l : List Nat) : toN (toI l) = l := toN_nats l
/-- The denominator that a text names. -/
def dnT (s : ByteArray) : List Nat := if dvT s = true then parseN (tlT s) else [1]
/-- Is it the text of a fraction? -/
def rpOk (s : ByteArray) : Bool := bpOk (hdT s) && (!dvT s || (pOk (tlT s) && !isOne (parseN (tlT s)))) && okR (bpS (hdT s)) (toI (bpM (hdT s))) (toI (dnT s))
def rpS (s : ByteArray) : Bool := rpOk s && bpS (hdT s)
def rpN (s : ByteArray) : List Nat := if rpOk s = true then bpM (hdT s) else []
def rpD (s : ByteArray) : List Nat := if rpOk s = true then dnT s else []
theorem rp_no {s : ByteArray} (h : rpOk s = false) : rpS s = false ∧ rpN s = [] ∧ rpD s = [] := by simp [rpS, rpN, rpD, h]
theorem rp_yes {s : ByteArray} (h : rpOk s = true) : rpS s = bpS (hdT s) ∧ rpN s = bpM (hdT s) ∧ rpD s = dnT s := by simp [rpS, rpN, rpD, h]
theorem dnT_len (s : ByteArray) : (dnT s).length ≤ 60 := by unfold dnT; split; exact parseN_len _; simp
theorem rpN_len (s : ByteArray) : (rpN s).length ≤ 60 := by unfold rpN; split; exact bpM_len _; simp
theorem rpD_len (s : ByteArray) : (rpD s).length ≤ 60 := by unfold rpD; split; exact dnT_len _; simp
theorem fmtN_back {s : ByteArray} (h : pOk s = true) : fmtN (toI (parseN s)) = s := by
  unfold fmtN
  rw [show okI (toI (parseN s)) = true from parse_ok h, if_pos rfl, toN_toI]
  exact back_text h
theorem rest_back {s : ByteArray} (h : negT s = true) : (⟨#[45]⟩ : ByteArray) ++ restT s = s := by
  unfold negT at h
  unfold restT
  apply bytes_ext
  rw [app_data]
  cases hl : s.data.toList with
  | nil => rw [hl] at h; simp [Lib.hasPrefix] at h
  | cons a r =>
    rw [hl] at h
    have ha : a = 45 := by simp [Lib.hasPrefix] at h; exact h.symm
    subst ha
    simp [Lib.trimPrefix, Lib.hasPrefix]
theorem fmtB_back {s : ByteArray} (h : bpOk s = true) : fmtB (bpS s) (toI (bpM s)) = s := by
  obtain ⟨e1, e2⟩ := bp_yes h
  have hp : pOk (restT s) = true := by unfold bpOk at h; simp at h; exact h.1
  have hk : okB (negT s) (toI (parseN (restT s))) = true := (okB_parse hp).trans h
  rw [e1, e2]
  cases hn : negT s with
  | true =>
    rw [hn] at hk
    rw [fmtB_true hk, fmtN_back hp, rest_back hn]
  | false =>
    rw [hn] at hk
    rw [fmtB_false hk, fmtN_back hp]
    unfold negT at hn
    unfold restT
    apply bytes_ext
    simp [Lib.trimPrefix, hn]
end Go.Proofs.YtdilgjakodimbaaGreatDoor
namespace Go.Proofs.YtdilgjakodimbaaGreatDoor
open Go.RowKit Nt Sp Jn Wm
set_option linter.unusedVariables false

/-- The second part of a text. -/
def sndT (s : ByteArray) : ByteArray := (parts s ⟨#[47]⟩).getD 1 ⟨#[]⟩
/-- The denominator that the model reads. -/
def dsT (s : ByteArray) : List Nat := if dvT s = true then parseN (sndT s) else [1]
def fineT (s : ByteArray) : Bool := !dvT s || pOk (sndT s)
/-- The fraction written again. -/
def agT (s : ByteArray) : ByteArray := fmtR (bpS (hdT s)) (toI (bpM (hdT s))) (toI (dsT s))
theorem snd_is {s : ByteArray} (h : dvT s = true) (hf : (47 : UInt8) ∉ (tlT s).data.toList) : sndT s = tlT s := by
  unfold dvT at h
  unfold tlT at hf ⊢
  unfold sndT
  cases hp : parts s ⟨#[47]⟩ with
  | nil => exact absurd hp (parts_ne s _)
  | cons x r =>
    cases r with
    | nil => rw [hp] at h; simp at h
    | cons y r =>
      cases r with
      | nil =>
        apply bytes_ext
        simp [join, joinL]
      | cons z r =>
        exfalso
        apply hf
        rw [hp]
        simp [join, joinL]
theorem pOk_free {t : ByteArray} (h : pOk t = true) : (47 : UInt8) ∉ t.data.toList := by
  obtain ⟨hd, _⟩ := pOk_iff.mp h
  have ha : digAll t.data.toList = true := (digs_iff.mp hd).1
  intro hm
  have := List.all_eq_true.mp ha 47 hm
  simp [dg] at this
theorem pOk_pos {t : ByteArray} (h : pOk t = true) : 0 < t.size := by
  obtain ⟨hd, _⟩ := pOk_iff.mp h
  have := (digs_iff.mp hd).2
  omega
theorem bpOk_pos {t : ByteArray} (h : bpOk t = true) : 0 < t.size := by
  have hp : pOk (restT t) = true := by unfold bpOk at h; simp at h; exact h.1
  have := pOk_pos hp
  have := rest_size t
  omega
theorem ne_of_pos {t : ByteArray} (h : 0 < t.size) : t ≠ ⟨#[]⟩ := by
  intro e
  rw [e] at h
  exact absurd h (by decide)
theorem same_one {s : ByteArray} (hd : dvT s = false) : (bpOk (hdT s) = true ∧ fineT s = true ∧ agT s ≠ ⟨#[]⟩ ∧ agT s = s) ↔ rpOk s = true := by
  have e1 : dsT s = [1] := by simp [dsT, hd]
  have e2 : dnT s = [1] := by simp [dnT, hd]
  have hw := whole_back hd
  unfold agT rpOk fineT
  rw [e1, e2]
  constructor
  · rintro ⟨h1, _, h3, h4⟩
    have hk : okR (bpS (hdT s)) (toI (bpM (hdT s))) (toI [1]) = true := by
      cases hk : okR (bpS (hdT s)) (toI (bpM (hdT s))) (toI [1]) with
      | true => rfl
      | false => exact absurd (fmtR_no hk) h3
    simp [h1, hd, hk]
  · intro h
    simp only [Bool.and_eq_true] at h
    obtain ⟨⟨h1, _⟩, hk⟩ := h
    have ef : fmtR (bpS (hdT s)) (toI (bpM (hdT s))) (toI [1]) = s := by
      rw [fmtR_one hk (by rw [toN_toI]; rfl), fmtB_back h1, ← hw]
    refine ⟨h1, by simp [hd], ?_, ef⟩
    rw [ef, hw]
    exact ne_of_pos (bpOk_pos h1)
theorem same_two {s : ByteArray} (hd : dvT s = true) : (bpOk (hdT s) = true ∧ fineT s = true ∧ agT s ≠ ⟨#[]⟩ ∧ agT s = s) ↔ rpOk s = true := by
  have e1 : dsT s = parseN (sndT s) := by simp [dsT, hd]
  have e2 : dnT s = parseN (tlT s) := by simp [dnT, hd]
  have hw := cut_back hd
  unfold agT rpOk fineT
  rw [e1, e2]
  constructor
  · rintro ⟨h1, h2, h3, h4⟩
    have h2 : pOk (sndT s) = true := by simpa [hd] using h2
    have hk : okR (bpS (hdT s)) (toI (bpM (hdT s))) (toI (parseN (sndT s))) = true := by
      cases hk : okR (bpS (hdT s)) (toI (bpM (hdT s))) (toI (parseN (sndT s))) with
      | true => rfl
      | false => exact absurd (fmtR_no hk) h3
    have ho : isOne (parseN (sndT s)) = false := by
      cases ho : isOne (parseN (sndT s)) with
      | false => rfl
      | true =>
        exfalso
        have ef := fmtR_one hk (by rw [toN_toI]; exact ho)
        rw [fmtB_back h1, h4] at ef
        have := congrArg ByteArray.size hw
        rw [← ef] at this
        simp only [ByteArray.size_append] at this
        have e : (⟨#[47]⟩ : ByteArray).size = 1 := rfl
        omega
    have ef := fmtR_two hk (by rw [toN_toI]; exact ho)
    rw [fmtB_back h1, fmtN_back h2, h4] at ef
    have et : tlT s = sndT s := (cut_is ef (hd_free s)).2.1
    rw [et]
    simp [h1, hd, h2, ho, hk]
  · intro h
    simp only [Bool.and_eq_true] at h
    obtain ⟨⟨h1, h2⟩, hk⟩ := h
    rw [hd] at h2
    simp only [Bool.not_true, Bool.false_or, Bool.and_eq_true, Bool.not_eq_true'] at h2
    have et := snd_is hd (pOk_free h2.1)
    rw [et]
    have ef := fmtR_two hk (by rw [toN_toI]; exact h2.2)
    rw [fmtB_back h1, fmtN_back h2.1] at ef
    have ef2 := ef.trans hw.symm
    refine ⟨h1, by simp [hd, h2.1], ?_, ef2⟩
    rw [ef2]
    apply ne_of_pos
    have := congrArg ByteArray.size hw
    simp only [ByteArray.size_append] at this
    have e : (⟨#[47]⟩ : ByteArray).size = 1 := rfl
    omega
theorem same_all (s : ByteArray) : (bpOk (hdT s) = true ∧ fineT s = true ∧ agT s ≠ ⟨#[]⟩ ∧ agT s = s) ↔ rpOk s = true := by
  cases hd : dvT s with
  | true => exact same_two hd
  | false => exact same_one hd
theorem den_same {s : ByteArray} (h : rpOk s = true) : dsT s = dnT s := by
  cases hd : dvT s with
  | false => simp [dsT, dnT, hd]
  | true =>
    unfold rpOk at h
    simp only [Bool.and_eq_true] at h
    have h2 := h.1.2
    rw [hd] at h2
    simp only [Bool.not_true, Bool.false_or, Bool.and_eq_true] at h2
    simp [dsT, dnT, hd, snd_is hd (pOk_free h2.1)]
end Go.Proofs.YtdilgjakodimbaaGreatDoor
namespace Go.Proofs.YtdilgjakodimbaaGreatDoor
open Go.RowKit
set_option linter.unusedVariables false

theorem idx_cut (a b : List UInt8) (c : UInt8) (h : c ∉ a) : Lib.indexByte (a ++ c :: b) c = (a.length : Int) := by
  induction a with
  | nil => simp [Lib.indexByte]
  | cons x a ih =>
    simp only [List.mem_cons, not_or] at h
    have := ih h.2
    rw [List.cons_append, Lib.indexByte, this]
    have hx : (x == c) = false := by simpa using Ne.symm h.1
    have hl : (((a.length : Nat) : Int) == -1) = false := by simp
    simp only [hx, hl, Bool.false_eq_true, if_false, List.length_cons]
    omega
theorem idx_none (a : List UInt8) (c : UInt8) (h : c ∉ a) : Lib.indexByte a c = -1 := by
  induction a with
  | nil => rfl
  | cons x a ih =>
    simp only [List.mem_cons, not_or] at h
    have hx : (x == c) = false := by simpa using Ne.symm h.1
    simp [Lib.indexByte, hx, ih h.2]
set_option maxRecDepth 100000 in
theorem lite_slash (s : ByteArray) (i : Int) (w : World) (hs : s.size ≤ 1048576) (hi : Lib.indexByte s.data.toList 47 = i) :
    Calls Tryz.prog 43 #[.string s, .string ⟨#[47]⟩] w fun e w' => e = .returned (.int .i64 i) ∧ w' = w := by
  have hsz : (⟨#[47]⟩ : ByteArray).size = 1 := rfl
  by_cases he : s = ⟨#[47]⟩
  · subst he
    obtain rfl : 0 = i := hi
    clear hs
    go_enter Tryz.func43, Tryz.ntmps43
    go_wp2
    go_ret
    exact ⟨rfl, rfl⟩
  · obtain ⟨hne1, hne2⟩ := str_ne (⟨#[47]⟩ : ByteArray) s (fun h => he h.symm)
    rw [ByteArray.toList_eq ⟨#[47]⟩] at hne1
    have hne3 : (([47] : List UInt8) == s.toList) = false := hne1
    clear hne1 hne2
    have HI := Lib.hid hi
    clear hi he
    go_enter Tryz.func43, Tryz.ntmps43
    go_wp2_with fail
    refine (Tryz.stringslite_IndexByte s 47 _).mono ?_
    rintro e w' ⟨rfl, rfl⟩
    rw [show ((47 : Int).toNat.toUInt8) = 47 from rfl, HI.out]
    go_wp2
    go_ret
    exact ⟨rfl, rfl⟩
set_option maxRecDepth 100000 in
theorem lite_cut (s : ByteArray) (w : World) (hs : s.size ≤ 1048576) :
    Calls Tryz.prog 31 #[.string s, .string ⟨#[47]⟩] w fun e w' => e = .returned (.tuple #[.string (hdT s), .string (if dvT s = true then tlT s else ⟨#[]⟩), .bool (dvT s)]) ∧ Below w.heap.size w w' := by
  have hsz : (⟨#[47]⟩ : ByteArray).size = 1 := rfl
  obtain ⟨H, hH⟩ : ∃ z, hdT s = z := ⟨_, rfl⟩
  obtain ⟨T, hT⟩ : ∃ z, tlT s = z := ⟨_, rfl⟩
  cases hd : dvT s with
  | true =>
    have hb := cut_back hd
    have hf := hd_free s
    rw [hH] at hf hb
    rw [hT] at hb
    have hi : Lib.indexByte s.data.toList 47 = (H.size : Int) := by
      conv => lhs; rw [hb, split_at]
      rw [idx_cut _ _ _ hf]
      simp
    obtain ⟨k, hk⟩ : ∃ k, H.size = k := ⟨_, rfl⟩
    rw [hk] at hi
    have hl : s.size = k + 1 + T.size := by
      have := congrArg ByteArray.size hb
      simp only [ByteArray.size_append, hsz] at this
      omega
    have hx1 : s.extract 0 k = H := by
      apply bytes_ext
      rw [Lib.extract_data, hb, split_at]
      have : H.data.toList.length = k := by simpa using hk
      simp [this]
    have hx2 : s.extract (k + 1) s.size = T := by
      apply bytes_ext
      rw [Lib.extract_data]
      conv => lhs; rw [hl, hb, split_at]
      have h1 : H.data.toList.length = k := by simpa using hk
      have h2 : T.data.toList.length = T.size := by simp
      rw [show H.data.toList ++ 47 :: T.data.toList = (H.data.toList ++ [47]) ++ T.data.toList by simp]
      rw [List.drop_append_of_le_length (by simp [h1]), List.drop_of_length_le (by simp [h1]), List.nil_append, List.take_of_length_le (by omega)]
    rw [hH, hT]
    simp only [if_true]
    have HH := Lib.hid hH
    have h0 : (0 : Int) ≤ (k : Int) := by omega
    have h1 : (k : Int) ≤ (s.size : Int) := by omega
    have h2 : ((k + 1 : Nat) : Int) ≤ (s.size : Int) := by omega
    have h3 : (k : Int) + 1 ≤ (s.size : Int) := by omega
    have hw : IntKind.i64.wrap ((k : Int) + 1) = (k : Int) + 1 := IntWalk.i64_in _ (by omega)
    have ht : ((k : Int) + 1).toNat = k + 1 := by omega
    clear hH hT hd hf hb hk hl
    go_enter Tryz.func31, Tryz.ntmps31
    go_wp2_with fail
    refine (lite_slash s (k : Int) _ hs hi).mono ?_
    rintro e w' ⟨rfl, rfl⟩
    clear hi
    go_wp2
    go_region
    all_goals go_wp2
    all_goals go_ret3
    all_goals exact ⟨rfl, (Below.refl _ _).drew⟩
  | false =>
    have hb := whole_back hd
    have hf := hd_free s
    rw [← hb] at hf hH
    subst hH
    rw [← hb]
    have hi := idx_none _ _ hf
    clear hb hf hd hT
    go_enter Tryz.func31, Tryz.ntmps31
    go_wp2_with fail
    refine (lite_slash s (-1) _ hs hi).mono ?_
    rintro e w' ⟨rfl, rfl⟩
    clear hi
    go_wp2
    go_ret3
    exact ⟨rfl, Below.refl _ _⟩
set_option maxRecDepth 100000 in
theorem cut_any (s : ByteArray) (w : World) (hs : s.size ≤ 1048576) :
    Calls Tryz.prog 13 #[.string s, .string ⟨#[47]⟩] w fun e w' => e = .returned (.tuple #[.string (hdT s), .string (if dvT s = true then tlT s else ⟨#[]⟩), .bool (dvT s)]) ∧ Below w.heap.size w w' := by
  obtain ⟨H, hH⟩ : ∃ z, hdT s = z := ⟨_, rfl⟩
  obtain ⟨T, hT⟩ : ∃ z, (if dvT s = true then tlT s else ⟨#[]⟩) = z := ⟨_, rfl⟩
  obtain ⟨D, hD⟩ : ∃ z, dvT s = z := ⟨_, rfl⟩
  have h := lite_cut s w hs
  rw [hT, hH, hD] at h
  rw [hT, hH, hD]
  clear hT hH hD
  go_enter Tryz.func13, Tryz.ntmps13
  go_wp2_with fail
  refine h.mono ?_
  rintro e w' ⟨rfl, hb⟩
  go_wp2
  go_ret3
  exact ⟨rfl, hb⟩
end Go.Proofs.YtdilgjakodimbaaGreatDoor
