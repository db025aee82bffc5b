/- Joined: XNatOk XNatCmp XNatToInt XTrim XNatOf XRow XNatAdd XNatSub XNatMul XFresh. Conditions: none. -/
import Derived.Test.YtaboodioabopnaaGreatProg
import Derived.Test.YtaboodioabopnaaGreatNB1
import Derived.Laws.CopyOwn
import Derived.Deep.RegionLawGrows
import Derived.Laws.AppendOwnNone
namespace Go.Proofs.YtaboodioabopnaaGreat
open Go.RowKit Nt
set_option linter.unusedVariables false
def okI (xs : List Int) : Bool := decide (xs.length ≤ 60 ∧ (∀ x ∈ xs, 0 ≤ x ∧ x < 1000000000) ∧ xs.getLast? ≠ some 0)
theorem okI_iff {xs : List Int} : okI xs = true ↔ xs.length ≤ 60 ∧ (∀ x ∈ xs, 0 ≤ x ∧ x < 1000000000) ∧ xs.getLast? ≠ some 0 := by simp [okI]
theorem okI_false {xs : List Int} (h : ¬ (xs.length ≤ 60 ∧ (∀ x ∈ xs, 0 ≤ x ∧ x < 1000000000) ∧ xs.getLast? ≠ some 0)) : okI xs = false := by
 cases e : okI xs with
 | false => rfl
 | true => exact absurd (okI_iff.mp e) h
def toN (xs : List Int) : List Nat := xs.map Int.toNat
theorem okI_nats {xs : List Int} (h : okI xs = true) : ints xs = nats (toN xs) ∧ Canon (toN xs) ∧ (toN xs).length ≤ 60 := by
 unfold toN
 obtain ⟨h1, h2, h3⟩ := okI_iff.mp h
 have e : xs = (xs.map Int.toNat).map (fun d : Nat => (d : Int)) := by
   rw [List.map_map]
   conv => lhs; rw [← List.map_id xs]
   apply List.map_congr_left
   intro x hx
   have := h2 x hx
   simp; omega
 refine ⟨by rw [nats, ← e], ⟨?_, ?_⟩, by simpa using h1⟩
 · intro d hd
   obtain ⟨x, hx, rfl⟩ := List.mem_map.mp hd
   have := h2 x hx
   omega
 · rw [List.getLast?_map]
   intro hl
   cases hq : xs.getLast? with
   | none => rw [hq] at hl; simp at hl
   | some x =>
     have hx := h2 x (List.mem_of_getLast? hq)
     rw [hq] at hl h3
     simp at hl h3
     omega
theorem okI_of_nats {ds : List Nat} (h : Canon ds) (hl : ds.length ≤ 60) : okI (ds.map fun d : Nat => (d : Int)) = true := by
 rw [okI_iff]
 refine ⟨by simpa using hl, ?_, ?_⟩
 · intro x hx
   obtain ⟨d, hd, rfl⟩ := List.mem_map.mp hx
   have := h.1 d hd
   omega
 · rw [List.getLast?_map]
   have := h.2
   cases hq : ds.getLast? with
   | none => simp
   | some x => rw [hq] at this; simp at this ⊢; omega
theorem toN_nats (ds : List Nat) : toN (ds.map fun d : Nat => (d : Int)) = ds := by simp [toN, Function.comp_def]
theorem toN_len (xs : List Int) : (toN xs).length = xs.length := by simp [toN]
theorem last_at {xs : List Int} (h : 0 < xs.length) : xs.getLast? = some (xs[xs.length - 1]'(by omega)) := by
 rw [List.getLast?_eq_getElem?, List.getElem?_eq_getElem]
theorem l01In_yes (x a b : Int) (w : World) (h1 : a ≤ x) (h2 : x ≤ b) :
   Calls Tryz.prog 32 #[.int .i64 x, .int .i64 a, .int .i64 b] w fun e w' => e = .returned (.bool true) ∧ w' = w := by
 go_enter Tryz.func32, Tryz.ntmps32
 go_wp2
 go_ret
 exact ⟨rfl, rfl⟩
theorem l01In_no (x a b : Int) (w : World) (h : x < a ∨ b < x) :
   Calls Tryz.prog 32 #[.int .i64 x, .int .i64 a, .int .i64 b] w fun e w' => e = .returned (.bool false) ∧ w' = w := by
 by_cases h1 : a ≤ x
 · have h2 : ¬ x ≤ b := by omega
   go_enter Tryz.func32, Tryz.ntmps32
   go_wp2
   go_ret
   exact ⟨rfl, rfl⟩
 · go_enter Tryz.func32, Tryz.ntmps32
   go_wp2
   go_ret
   exact ⟨rfl, rfl⟩
set_option maxRecDepth 100000 in
set_option maxHeartbeats 1000000 in
theorem natOk_impl (A : Option Addr) (n c : Nat) (xs : List Int) (w : World) (hA : VRow w A n (ints xs)) (hn : n ≤ maxLen) :
   Calls Tryz.prog 85 #[.slice A n c] w fun e w' => e = .returned (.bool (okI xs)) ∧ Below w.heap.size w w' := by
 unfold maxLen at hn
 have HL := Lib.hid (show xs.length = n by simpa [ints] using hA.1)
 by_cases h60 : 60 < n
 · have hk : okI xs = false := okI_false (fun h => by have := h.1; have := HL.out; omega)
   rw [hk]
   go_enter Tryz.func85, Tryz.ntmps85
   go_wp2
   go_ret
   exact ⟨rfl, Below.refl _ _⟩
 go_enter Tryz.func85, Tryz.ntmps85
 go_wp2
 go_loopw [10] (fun i wr => ∃ k q : Nat, k ≤ n ∧ i = .int .i64 k ∧ wr = w.drewN q ∧ ∀ j, j < k → 0 ≤ xs.getD j 0 ∧ xs.getD j 0 < 1000000000) (fun i _ => n - (intOf i).toNat)
 case atStart => exact ⟨0, 0, Nat.zero_le _, rfl, rfl, fun j h => absurd h (Nat.not_lt_zero j)⟩
 case round =>
   obtain ⟨k, q, hk, rfl, rfl, hall⟩ := hrel
   have HALL := Lib.hid hall
   clear hall
   by_cases hlt : k < n
   · obtain ⟨g, o, rfl, hg, hc⟩ := hA.at_ hlt
     have hkx : k < xs.length := by have := HL.out; omega
     rw [ints_get] at hc
     obtain ⟨x, hx⟩ : ∃ x, xs[k] = x := ⟨_, rfl⟩
     rw [hx] at hc
     have HX := Lib.hid hx
     clear hx
     by_cases h1 : x < 0
     · go_wp2
       go_ret
       refine ⟨ret_bool (okI_false fun h => ?_).symm, below_drewN (Below.refl _ _) _⟩
       have := h.2.1 xs[k] (List.getElem_mem hkx)
       have := HX.out
       omega
     · by_cases h2 : x < 1000000000
       · go_wp2
         refine ⟨⟨k + 1, _, by omega, by go_num, rfl, fun j hj => ?_⟩, by simp [intOf]; omega⟩
         by_cases hjk : j < k
         · exact HALL.out j hjk
         · obtain rfl : j = k := by omega
           have := HX.out
           simp [hkx]; omega
       · go_wp2
         go_ret
         refine ⟨ret_bool (okI_false fun h => ?_).symm, below_drewN (Below.refl _ _) _⟩
         have := h.2.1 xs[k] (List.getElem_mem hkx)
         have := HX.out
         omega
   · obtain rfl : k = n := by omega
     have hin : ∀ x ∈ xs, 0 ≤ x ∧ x < 1000000000 := by
       intro x hx
       obtain ⟨i, hi, rfl⟩ := List.mem_iff_getElem.mp hx
       have := HALL.out i (by have := HL.out; omega)
       simpa [hi] using this
     by_cases h0 : k = 0
     · subst h0
       go_wp2
       go_ret
       refine ⟨ret_bool (okI_iff.mpr ⟨by have := HL.out; omega, hin, ?_⟩).symm, below_drewN (Below.refl _ _) _⟩
       rw [List.eq_nil_of_length_eq_zero HL.out]; simp
     · obtain ⟨g, o, rfl, hg, hc⟩ := hA.at_ (show k - 1 < k by omega)
       have hkx : k - 1 < xs.length := by have := HL.out; omega
       rw [ints_get] at hc
       have hlast := last_at (xs := xs) (by omega)
       have hix : xs[xs.length - 1]'(by omega) = xs[k - 1] := by congr 1; have := HL.out; omega
       obtain ⟨x, hx⟩ : ∃ x, xs[k - 1] = x := ⟨_, rfl⟩
       rw [hx] at hc hix
       rw [hix] at hlast
       have hsub : IntKind.i64.wrap ((k : Int) - 1) = ((k - 1 : Nat) : Int) := by rw [IntKind.wrap_i64]; omega
       have HLA := Lib.hid hlast
       have HIN := Lib.hid hin
       clear hlast hix hx hin
       by_cases hx0 : x = 0
       · subst hx0
         go_wp2
         go_ret
         exact ⟨ret_bool (Eq.trans (b := false) (by simp; omega) (okI_false fun h => h.2.2 HLA.out).symm), below_drewN (Below.refl _ _) _⟩
       · go_wp2
         go_ret
         refine ⟨ret_bool (Eq.trans (b := true) (by simp; omega) (okI_iff.mpr ⟨by have := HL.out; omega, HIN.out, ?_⟩).symm), below_drewN (Below.refl _ _) _⟩
         rw [HLA.out]; simpa using hx0
set_option maxRecDepth 100000 in
set_option maxHeartbeats 1000000 in
theorem natOk_spec (A : Option Addr) (n c : Nat) (xs : List Int) (w : World) (hA : VRow w A n (ints xs)) (hn : n ≤ maxLen) :
   Calls Tryz.prog 71 #[.slice A n c] w fun e w' => e = .returned (.bool (okI xs)) ∧ Below w.heap.size w w' := by
 unfold maxLen at hn
 have HL := Lib.hid (show xs.length = n by simpa [ints] using hA.1)
 go_enter Tryz.func71, Tryz.ntmps71
 go_wp2
 go_loopw [7] (fun i wr => ∃ k q : Nat, k ≤ n ∧ i = .int .i64 k ∧ wr = w.drewN q ∧ ∀ j, j < k → 0 ≤ xs.getD j 0 ∧ xs.getD j 0 < 1000000000) (fun i _ => n - (intOf i).toNat)
 case atStart => exact ⟨0, 0, Nat.zero_le _, rfl, rfl, fun j h => absurd h (Nat.not_lt_zero j)⟩
 case round =>
   obtain ⟨k, q, hk, rfl, rfl, hall⟩ := hrel
   have HALL := Lib.hid hall
   clear hall
   by_cases hlt : k < n
   · obtain ⟨g, o, rfl, hg, hc⟩ := hA.at_ hlt
     have hkx : k < xs.length := by have := HL.out; omega
     rw [ints_get] at hc
     obtain ⟨x, hx⟩ : ∃ x, xs[k] = x := ⟨_, rfl⟩
     rw [hx] at hc
     have HX := Lib.hid hx
     clear hx
     by_cases h1 : x < 0
     · go_wp2_with fail
       refine (l01In_no _ _ _ _ (by omega)).mono ?_
       rintro e w1 ⟨rfl, rfl⟩
       go_wp2
       go_ret
       refine ⟨ret_bool (okI_false fun h => ?_).symm, below_drewN (Below.refl _ _) _⟩
       have := h.2.1 xs[k] (List.getElem_mem hkx)
       have := HX.out
       omega
     · by_cases h2 : x < 1000000000
       · go_wp2_with fail
         refine (l01In_yes _ _ _ _ (by omega) (by omega)).mono ?_
         rintro e w1 ⟨rfl, rfl⟩
         go_wp2
         refine ⟨⟨k + 1, _, by omega, by go_num, rfl, fun j hj => ?_⟩, by simp [intOf]; omega⟩
         by_cases hjk : j < k
         · exact HALL.out j hjk
         · obtain rfl : j = k := by omega
           have := HX.out
           simp [hkx]; omega
       · go_wp2_with fail
         refine (l01In_no _ _ _ _ (by omega)).mono ?_
         rintro e w1 ⟨rfl, rfl⟩
         go_wp2
         go_ret
         refine ⟨ret_bool (okI_false fun h => ?_).symm, below_drewN (Below.refl _ _) _⟩
         have := h.2.1 xs[k] (List.getElem_mem hkx)
         have := HX.out
         omega
   · obtain rfl : k = n := by omega
     by_cases h60 : 60 < k
     · go_wp2
       go_ret
       exact ⟨ret_bool (okI_false fun h => by have := h.1; have := HL.out; omega).symm, below_drewN (Below.refl _ _) _⟩
     have hin : ∀ x ∈ xs, 0 ≤ x ∧ x < 1000000000 := by
       intro x hx
       obtain ⟨i, hi, rfl⟩ := List.mem_iff_getElem.mp hx
       have := HALL.out i (by have := HL.out; omega)
       simpa [hi] using this
     by_cases h0 : k = 0
     · subst h0
       go_wp2
       go_ret
       refine ⟨ret_bool (okI_iff.mpr ⟨by have := HL.out; omega, hin, ?_⟩).symm, below_drewN (Below.refl _ _) _⟩
       rw [List.eq_nil_of_length_eq_zero HL.out]; simp
     · obtain ⟨g, o, rfl, hg, hc⟩ := hA.at_ (show k - 1 < k by omega)
       have hkx : k - 1 < xs.length := by have := HL.out; omega
       rw [ints_get] at hc
       have hlast := last_at (xs := xs) (by omega)
       have hix : xs[xs.length - 1]'(by omega) = xs[k - 1] := by congr 1; have := HL.out; omega
       obtain ⟨x, hx⟩ : ∃ x, xs[k - 1] = x := ⟨_, rfl⟩
       rw [hx] at hc hix
       rw [hix] at hlast
       have hsub : IntKind.i64.wrap ((k : Int) - 1) = ((k - 1 : Nat) : Int) := by rw [IntKind.wrap_i64]; omega
       have HLA := Lib.hid hlast
       have HIN := Lib.hid hin
       clear hlast hix hx hin
       by_cases hx0 : x = 0
       · subst hx0
         go_wp2
         go_ret
         exact ⟨ret_bool (Eq.trans (b := false) (by simp; omega) (okI_false fun h => h.2.2 HLA.out).symm), below_drewN (Below.refl _ _) _⟩
       · go_wp2
         go_ret
         refine ⟨ret_bool (Eq.trans (b := true) (by simp; omega) (okI_iff.mpr ⟨by have := HL.out; omega, HIN.out, ?_⟩).symm), below_drewN (Below.refl _ _) _⟩
         rw [HLA.out]; simpa using hx0
end Go.Proofs.YtaboodioabopnaaGreat
namespace Go.Proofs.YtaboodioabopnaaGreat
open Go.RowKit Nt
set_option linter.unusedVariables false
theorem sgn_lt {a b : Nat} (h : a < b) : sgn a b = -1 := by rw [sgn, if_pos h]
theorem sgn_gt {a b : Nat} (h : b < a) : sgn a b = 1 := by rw [sgn, if_neg (by omega), if_neg (by omega)]
theorem sgn_eq {a b : Nat} (h : a = b) : sgn a b = 0 := by rw [sgn, if_neg (by omega), if_pos h]
def cmpI (xs ys : List Int) : Int := if okI xs = true ∧ okI ys = true then sgn (val (toN xs)) (val (toN ys)) else 0
set_option maxRecDepth 100000 in
set_option maxHeartbeats 1000000 in
theorem l02Cmp_any (A B : Option Addr) (n c m d : Nat) (ds es : List Nat) (w : World) (hA : VRow w A n (nats ds)) (hB : VRow w B m (nats es)) (hds : Canon ds) (hes : Canon es) (hn : n ≤ maxLen) (hm : m ≤ maxLen) :
   Calls Tryz.prog 124 #[.slice A n c, .slice B m d] w fun e w' => e = .returned (.int .i64 (sgn (val ds) (val es))) ∧ Below w.heap.size w w' := by
 unfold maxLen at hn hm
 have HL := Lib.hid (show ds.length = n by simpa [nats_len] using hA.1)
 have HM := Lib.hid (show es.length = m by simpa [nats_len] using hB.1)
 by_cases hlt : n < m
 · rw [sgn_lt (val_lt_len hds.1 hes (by have := HL.out; have := HM.out; omega))]
   go_enter Tryz.func124, Tryz.ntmps124
   go_wp2
   go_ret
   exact ⟨rfl, Below.refl _ _⟩
 by_cases hgt : m < n
 · rw [sgn_gt (val_lt_len hes.1 hds (by have := HL.out; have := HM.out; omega))]
   go_enter Tryz.func124, Tryz.ntmps124
   go_wp2
   go_ret
   exact ⟨rfl, Below.refl _ _⟩
 obtain rfl : n = m := by omega
 have HD := Lib.hid hds
 have HE := Lib.hid hes
 clear hds hes
 go_enter Tryz.func124, Tryz.ntmps124
 go_wp2
 go_loopw [5] (fun i wr => ∃ k q : Nat, k ≤ n ∧ i = .int .i64 ((k : Int) - 1) ∧ wr = w.drewN q ∧ ds.drop k = es.drop k) (fun i _ => (intOf i + 1).toNat)
 case atStart => exact ⟨n, 0, Nat.le_refl _, by go_num, rfl, by rw [List.drop_of_length_le (by have := HL.out; omega), List.drop_of_length_le (by have := HM.out; omega)]⟩
 case round =>
   obtain ⟨k, q, hk, rfl, rfl, hdr⟩ := hrel
   have HDR := Lib.hid hdr
   clear hdr
   by_cases h0 : k = 0
   · subst h0
     go_wp2
     go_ret
     have e : ds = es := by simpa using HDR.out
     rw [sgn_eq (by rw [e])]
     exact ⟨rfl, below_drewN (Below.refl _ _) _⟩
   · obtain ⟨i, rfl⟩ : ∃ i, k = i + 1 := ⟨k - 1, by omega⟩
     have hwi : ((i + 1 : Nat) : Int) - 1 = (i : Int) := by omega
     rw [hwi]
     clear hwi
     obtain ⟨g, o, rfl, hg, hc⟩ := hA.at_ (show i < n by omega)
     obtain ⟨g', o', rfl, hg', hc'⟩ := hB.at_ (show i < n by omega)
     rw [nats_get] at hc hc'
     have hix : i < ds.length := by have := HL.out; omega
     have hiy : i < es.length := by have := HM.out; omega
     obtain ⟨x, hx⟩ : ∃ x, ds[i] = x := ⟨_, rfl⟩
     obtain ⟨y, hy⟩ : ∃ y, es[i] = y := ⟨_, rfl⟩
     rw [hx] at hc
     rw [hy] at hc'
     have HX := Lib.hid hx
     have HY := Lib.hid hy
     clear hx hy
     by_cases h1 : x < y
     · go_wp2
       go_quiet (fail)
       go_wp2
       go_ret
       rw [sgn_lt (val_lt_at HD.out.1 i hix hiy HDR.out (by rw [HX.out, HY.out]; exact h1))]
       exact ⟨rfl, below_drewN (below_drewN (Below.refl _ _) _) _⟩
     by_cases h2 : y < x
     · go_wp2
       go_quiet (fail)
       go_wp2
       go_quiet (fail)
       go_wp2
       go_ret
       rw [sgn_gt (val_lt_at HE.out.1 i hiy hix HDR.out.symm (by rw [HX.out, HY.out]; exact h2))]
       exact ⟨rfl, below_drewN (below_drewN (below_drewN (Below.refl _ _) _) _) _⟩
     obtain rfl : x = y := by omega
     go_wp2
     go_quiet (fail)
     go_wp2
     go_quiet (fail)
     go_wp2
     exact ⟨⟨i, _, by omega, by go_num, rfl, drop_eq_succ i hix hiy HDR.out (by rw [HX.out, HY.out])⟩, by simp [intOf]⟩
theorem isNaN_any (x : Int) (w : World) :
   Calls Tryz.prog 147 #[.int .i64 x] w fun e w' => e = .returned (.bool false) ∧ w' = w := by
 go_enter Tryz.func147, Tryz.ntmps147
 go_wp2
 go_ret
 exact ⟨rfl, rfl⟩
theorem compare_any (x y : Int) (w : World) :
   Calls Tryz.prog 145 #[.int .i64 x, .int .i64 y] w fun e w' => e = .returned (.int .i64 (if x < y then -1 else if x = y then 0 else 1)) ∧ w' = w := by
 by_cases h1 : x < y
 · rw [if_pos h1]
   go_enter Tryz.func145, Tryz.ntmps145
   go_wp2_with (go_at_call 147; refine (isNaN_any _ _).mono ?_; rintro e w1 ⟨rfl, rfl⟩)
   go_ret
   exact ⟨rfl, rfl⟩
 rw [if_neg h1]
 by_cases h2 : x = y
 · rw [if_pos h2]
   subst h2
   go_enter Tryz.func145, Tryz.ntmps145
   go_wp2_with (go_at_call 147; refine (isNaN_any _ _).mono ?_; rintro e w1 ⟨rfl, rfl⟩)
   go_ret
   exact ⟨rfl, rfl⟩
 · rw [if_neg h2]
   have h3 : y < x := by omega
   go_enter Tryz.func145, Tryz.ntmps145
   go_wp2_with (go_at_call 147; refine (isNaN_any _ _).mono ?_; rintro e w1 ⟨rfl, rfl⟩)
   go_ret
   exact ⟨rfl, rfl⟩
theorem sgn_cast (x y : Nat) : (if (x : Int) < (y : Int) then -1 else if (x : Int) = (y : Int) then 0 else 1 : Int) = sgn x y := by
 unfold sgn
 by_cases h1 : x < y
 · rw [if_pos h1, if_pos (by omega)]
 · rw [if_neg h1, if_neg (by omega)]
   by_cases h2 : x = y
   · rw [if_pos h2, if_pos (by omega)]
   · rw [if_neg h2, if_neg (by omega)]
theorem compare_nat (x y : Nat) (w : World) :
   Calls Tryz.prog 145 #[.int .i64 x, .int .i64 y] w fun e w' => e = .returned (.int .i64 (sgn x y)) ∧ w' = w := by
 rw [← sgn_cast]
 exact compare_any x y w
set_option maxRecDepth 100000 in
set_option maxHeartbeats 1000000 in
theorem natCmp_impl (A B : Option Addr) (n c m d : Nat) (xs ys : List Int) (w : World) (hA : VRow w A n (ints xs)) (hB : VRow w B m (ints ys)) (hn : n ≤ maxLen) (hm : m ≤ maxLen) :
   Calls Tryz.prog 140 #[.slice A n c, .slice B m d] w fun e w' => e = .returned (.int .i64 (cmpI xs ys)) ∧ Below w.heap.size w w' := by
 have HA := Lib.hid hA
 have HB := Lib.hid hB
 clear hA hB
 cases hx : okI xs with
 | false =>
   have e : cmpI xs ys = 0 := by simp [cmpI, hx]
   rw [e]
   clear e
   go_enter Tryz.func140, Tryz.ntmps140
   go_wp2_with fail
   refine (natOk_impl _ _ _ xs _ HA.out hn).mono ?_
   rintro e w1 ⟨rfl, hb⟩
   rw [hx]
   have HB1 := Lib.hid hb
   clear hb
   go_wp2
   go_ret
   exact ⟨rfl, HB1.out⟩
 | true =>
   obtain ⟨hxn, hxc, hxl⟩ := okI_nats hx
   go_enter Tryz.func140, Tryz.ntmps140
   go_wp2_with fail
   refine (natOk_impl _ _ _ xs _ HA.out hn).mono ?_
   rintro e w1 ⟨rfl, hb⟩
   rw [hx]
   have HB1 := Lib.hid hb
   clear hb
   go_wp2_with fail
   refine (natOk_impl _ _ _ ys _ (HB.out.below HB1.out (Nat.le_refl _)) hm).mono ?_
   rintro e w2 ⟨rfl, hb⟩
   have HB2 := Lib.hid (HB1.out.trans (hb.mono HB1.out.size))
   clear hb
   cases hy : okI ys with
   | false =>
     go_wp2
     go_ret
     exact ⟨ret_int (by simp [cmpI, hy]), HB2.out⟩
   | true =>
     obtain ⟨hyn, hyc, hyl⟩ := okI_nats hy
     have hA2 := HA.out.below HB2.out (Nat.le_refl _)
     have hBB2 := HB.out.below HB2.out (Nat.le_refl _)
     rw [hxn] at hA2
     rw [hyn] at hBB2
     have e : cmpI xs ys = sgn (val (toN xs)) (val (toN ys)) := by simp [cmpI, hx, hy]
     have HEQ := Lib.hid e
     clear e hxn hyn hx hy
     generalize toN xs = ds at *
     generalize toN ys = es at *
     have HL := Lib.hid (show ds.length = n by simpa [nats_len] using hA2.1)
     have HM := Lib.hid (show es.length = m by simpa [nats_len] using hBB2.1)
     have HX := Lib.hid hxc
     have HY := Lib.hid hyc
     have HA2 := Lib.hid hA2
     have HBB2 := Lib.hid hBB2
     clear hxc hyc hA2 hBB2
     unfold maxLen at hn hm
     by_cases hne : n = m
     · subst hne
       go_wp2
       go_loopw [5] (fun i wr => ∃ k q : Nat, k ≤ n ∧ i = .int .i64 ((k : Int) - 1) ∧ wr = w2.drewN q ∧ ds.drop k = es.drop k) (fun i _ => (intOf i + 1).toNat)
       case atStart => exact ⟨n, 0, Nat.le_refl _, by go_num, rfl, by rw [List.drop_of_length_le (by have := HL.out; omega), List.drop_of_length_le (by have := HM.out; omega)]⟩
       case round =>
         obtain ⟨k, q, hk, rfl, rfl, hdr⟩ := hrel
         have HDR := Lib.hid hdr
         clear hdr
         by_cases h0 : k = 0
         · subst h0
           go_wp2
           go_ret
           have e : ds = es := by simpa using HDR.out
           rw [HEQ.out, sgn_eq (by rw [e])]
           exact ⟨rfl, below_drewN HB2.out _⟩
         · obtain ⟨i, rfl⟩ : ∃ i, k = i + 1 := ⟨k - 1, by omega⟩
           have hwi : ((i + 1 : Nat) : Int) - 1 = (i : Int) := by omega
           rw [hwi]
           clear hwi
           obtain ⟨g, o, rfl, hg, hc⟩ := HA2.out.at_ (show i < n by omega)
           obtain ⟨g', o', rfl, hg', hc'⟩ := HBB2.out.at_ (show i < n by omega)
           rw [nats_get] at hc hc'
           have hix : i < ds.length := by have := HL.out; omega
           have hiy : i < es.length := by have := HM.out; omega
           obtain ⟨x, hx⟩ : ∃ x, ds[i] = x := ⟨_, rfl⟩
           obtain ⟨y, hy⟩ : ∃ y, es[i] = y := ⟨_, rfl⟩
           rw [hx] at hc
           rw [hy] at hc'
           have hin : i < n := by omega
           have hinZ : (i : Int) < (n : Int) := by omega
           have HXX := Lib.hid hx
           have HYY := Lib.hid hy
           clear hx hy
           by_cases h1 : x = y
           · subst h1
             go_wp2
             go_quiet (fail)
             go_wp2
             exact ⟨⟨i, _, by omega, by go_num, rfl, drop_eq_succ i hix hiy HDR.out (by rw [HXX.out, HYY.out])⟩, by simp [intOf]⟩
           · go_wp2
             go_quiet (fail)
             go_wp2
             have hb9 : Below w.heap.size w ((w2.drewN q).drewN nq) := below_drewN (below_drewN HB2.out _) _
             have hc9 : ((w2.drewN q).drewN nq).cell? ⟨g, o + i, none⟩ = some (.int .i64 (x : Int)) := hc
             have hc9' : ((w2.drewN q).drewN nq).cell? ⟨g', o' + i, none⟩ = some (.int .i64 (y : Int)) := hc'
             have HB9 := Lib.hid hb9
             clear hb9 hc hc'
             generalize (w2.drewN q).drewN nq = w9 at *
             go_quiet ((go_at_call 145; refine Calls.quiet_of_same (compare_nat x y _)))
             go_wp2
             go_ret
             refine ⟨ret_int ?_, below_drewN HB9.out _⟩
             rw [HEQ.out]
             rcases Nat.lt_or_gt_of_ne h1 with h2 | h2
             · rw [sgn_lt h2, sgn_lt (val_lt_at HX.out.1 i hix hiy HDR.out (by rw [HXX.out, HYY.out]; exact h2))]
             · rw [sgn_gt h2, sgn_gt (val_lt_at HY.out.1 i hiy hix HDR.out.symm (by rw [HXX.out, HYY.out]; exact h2))]
     · go_wp2_with fail
       refine (compare_nat n m _).mono ?_
       rintro e w3 ⟨rfl, rfl⟩
       go_wp2
       go_ret
       refine ⟨ret_int ?_, HB2.out⟩
       rw [HEQ.out]
       rcases Nat.lt_or_gt_of_ne hne with h2 | h2
       · rw [sgn_lt h2, sgn_lt (val_lt_len HX.out.1 HY.out (by have := HL.out; have := HM.out; omega))]
       · rw [sgn_gt h2, sgn_gt (val_lt_len HY.out.1 HX.out (by have := HL.out; have := HM.out; omega))]
end Go.Proofs.YtaboodioabopnaaGreat
namespace Go.Proofs.YtaboodioabopnaaGreat
open Go.RowKit Nt
set_option linter.unusedVariables false
def fitsI (xs : List Int) : Bool := okI xs && decide (val (toN xs) ≤ 9223372036854775807)
def intI (xs : List Int) : Int := if fitsI xs = true then (val (toN xs) : Nat) else 0
theorem fits_iff {xs : List Int} : fitsI xs = true ↔ okI xs = true ∧ val (toN xs) ≤ 9223372036854775807 := by simp [fitsI]
theorem val_drop_le (ds : List Nat) (k : Nat) : val (ds.drop k) ≤ val ds := by
 by_cases h : k ≤ ds.length
 · rw [val_take_drop ds k h]
   have h1 : val (ds.drop k) ≤ 1000000000 ^ k * val (ds.drop k) := Nat.le_mul_of_pos_left _ (pow_pos k)
   omega
 · rw [List.drop_of_length_le (by omega)]; simp [val]
theorem ret_two {z z' : Int} {b b' : Bool} (h1 : z = z') (h2 : b = b') : Ending.returned (.tuple #[.int .i64 z, .bool b]) = .returned (.tuple #[.int .i64 z', .bool b']) := by rw [h1, h2]
theorem int_no {xs : List Int} (h : fitsI xs = false) : (0 : Int) = intI xs := by simp [intI, h]
theorem int_yes {xs : List Int} (h : fitsI xs = true) : ((val (toN xs) : Nat) : Int) = intI xs := by simp [intI, h]
set_option maxRecDepth 100000 in
set_option maxHeartbeats 1000000 in
theorem natToInt_spec (A : Option Addr) (n c : Nat) (xs : List Int) (w : World) (hA : VRow w A n (ints xs)) (hn : n ≤ maxLen) :
   Calls Tryz.prog 105 #[.slice A n c] w fun e w' => e = .returned (.tuple #[.int .i64 (intI xs), .bool (fitsI xs)]) ∧ Below w.heap.size w w' := by
 have HA := Lib.hid hA
 clear hA
 go_enter Tryz.func105, Tryz.ntmps105
 go_wp2_with fail
 refine (natOk_spec _ _ _ xs _ HA.out hn).mono ?_
 rintro e w1 ⟨rfl, hb⟩
 have HB1 := Lib.hid hb
 clear hb
 cases hx : okI xs with
 | false =>
   have hf : fitsI xs = false := by simp [fitsI, hx]
   have HF := Lib.hid hf
   clear hf hx
   go_wp2
   go_ret2
   exact ⟨ret_two (int_no HF.out) HF.out.symm, HB1.out⟩
 | true =>
   obtain ⟨hxn, hxc, hxl⟩ := okI_nats hx
   have hA2 := HA.out.below HB1.out (Nat.le_refl _)
   rw [hxn] at hA2
   have HIF := Lib.hid (fun h => fits_iff (xs := xs) |>.mpr ⟨hx, h⟩)
   have HIN := Lib.hid (fun (h : ¬ val (toN xs) ≤ 9223372036854775807) => show fitsI xs = false by simp [fitsI, h])
   have HIY := Lib.hid (fun h => int_yes (xs := xs) h)
   have HI0 := Lib.hid (fun h => int_no (xs := xs) h)
   clear hxn hx HA
   generalize toN xs = ds at *
   have HL := Lib.hid (show ds.length = n by simpa [nats_len] using hA2.1)
   have HX := Lib.hid hxc
   have HA2 := Lib.hid hA2
   clear hxc hA2
   have HN := Lib.hid hn
   unfold maxLen at hn
   go_wp2_with fail
   refine (l02Cmp_any _ _ _ _ _ _ ds [854775807, 223372036, 9] _ (HA2.out.below ((Below.refl _ _).alloc (Nat.le_refl _) _) (Nat.le_refl _)) ?_ HX.out ⟨by intro d hd; simp at hd; omega, by decide⟩ HN.out (by unfold maxLen; omega)).mono ?_
   · refine ⟨rfl, fun _ => ⟨w1.heap.size, 0, rfl, by simp, fun k hk => ?_⟩⟩
     rcases (by omega : k = 0 ∨ k = 1 ∨ k = 2) with rfl | rfl | rfl <;> simp [nats, ints]
   rintro e w2 ⟨rfl, hb⟩
   have HB2 := Lib.hid ((HB1.out.alloc HB1.out.size _).trans (hb.mono (by have := HB1.out.size; simp; omega)))
   have HA3 := Lib.hid ((HA2.out.below ((Below.refl _ _).alloc (Nat.le_refl _) _) (Nat.le_refl _)).below hb (Nat.le_refl _))
   clear hb HA2
   have hM : val [854775807, 223372036, 9] = 9223372036854775807 := by decide
   rw [hM]
   by_cases hle : val ds ≤ 9223372036854775807
   · have hs : ¬ (0 : Int) < sgn (val ds) 9223372036854775807 := by unfold sgn; by_cases h1 : val ds < 9223372036854775807 <;> by_cases h2 : val ds = 9223372036854775807 <;> simp [h1, h2]; omega
     generalize sgn (val ds) 9223372036854775807 = s at *
     have HLE := Lib.hid hle
     clear hle hM
     go_wp2
     go_loop [4, 5] (fun s i => ∃ k v : Nat, k ≤ n ∧ i = .int .i64 ((k : Int) - 1) ∧ s = .int .i64 v ∧ v = val (ds.drop k)) (fun _ i => (intOf i + 1).toNat)
     case atStart => exact ⟨n, 0, Nat.le_refl _, by go_num, rfl, by rw [List.drop_of_length_le (by have := HL.out; omega)]; rfl⟩
     case round =>
       obtain ⟨k, v, hk, rfl, rfl, hv⟩ := hrel
       have HV := Lib.hid hv
       clear hv
       by_cases h0 : k = 0
       · subst h0
         go_wp2
         go_ret2
         have e : v = val ds := by simpa using HV.out
         have hf := HIF.out HLE.out
         exact ⟨ret_two (by rw [← HIY.out hf, e]) hf.symm, HB2.out⟩
       · obtain ⟨i, rfl⟩ : ∃ i, k = i + 1 := ⟨k - 1, by omega⟩
         have hwi : ((i + 1 : Nat) : Int) - 1 = (i : Int) := by omega
         rw [hwi]
         clear hwi
         obtain ⟨g, o, rfl, hg, hc⟩ := HA3.out.at_ (show i < n by omega)
         rw [nats_get] at hc
         have hix : i < ds.length := by have := HL.out; omega
         have hds := val_drop_succ ds i hix
         have hle := val_drop_le ds i
         have hin : i < n := by omega
         have hinZ : (i : Int) < (n : Int) := by omega
         obtain ⟨x, hx⟩ : ∃ x, ds[i] = x := ⟨_, rfl⟩
         rw [hx] at hc hds
         rw [← HV.out] at hds
         have hbd : v * 1000000000 + x ≤ 9223372036854775807 := by have := HLE.out; omega
         have HDS := Lib.hid hds
         clear hx hds hle
         go_wp2
         exact ⟨⟨i, v * 1000000000 + x, by omega, by go_num, by go_num, by have := HDS.out; omega⟩, by simp [intOf]⟩
   · have hs : sgn (val ds) 9223372036854775807 = 1 := sgn_gt (by omega)
     rw [hs]
     have HLE := Lib.hid hle
     clear hle hM hs
     go_wp2
     go_ret2
     have hf := HIN.out HLE.out
     exact ⟨ret_two (HI0.out hf) hf.symm, HB2.out⟩
end Go.Proofs.YtaboodioabopnaaGreat
namespace Go.Proofs.YtaboodioabopnaaGreat
open Go.RowKit Nt
set_option linter.unusedVariables false
set_option maxRecDepth 100000 in
set_option maxHeartbeats 1000000 in
theorem l02Trim_any (A : Option Addr) (n c : Nat) (ds : List Nat) (w : World) (hA : VRow w A n (nats ds)) (hd : Digs ds) (hnc : n ≤ c) (hc : c ≤ maxLen) (hnil : A = none → c = 0) :
   Calls Tryz.prog 126 #[.slice A n c] w fun e w' => e = .returned (.slice A (dig (val ds)).length c) ∧ w' = w := by
 unfold maxLen at hc
 have HL := Lib.hid (show ds.length = n by simpa [nats_len] using hA.1)
 have HD := Lib.hid hd
 clear hd
 go_enter Tryz.func126, Tryz.ntmps126
 go_wp2
 go_loop [3] (fun i => ∃ k : Nat, k ≤ n ∧ i = .int .i64 k ∧ val (ds.take k) = val ds) (fun i => (intOf i).toNat)
 case atStart => exact ⟨n, Nat.le_refl _, rfl, by rw [List.take_of_length_le (by have := HL.out; omega)]⟩
 case round =>
   obtain ⟨k, hk, rfl, hv⟩ := hrel
   have HV := Lib.hid hv
   clear hv
   by_cases h0 : k = 0
   · subst h0
     have e := trim_at HD.out 0 (Nat.zero_le _) HV.out (.inl rfl)
     have el : 0 = (dig (val ds)).length := by rw [← e]; rfl
     have HEL := Lib.hid el
     clear e el
     cases A with
     | none =>
       have hc0 := hnil rfl
       subst hc0
       obtain rfl : n = 0 := by omega
       go_wp2
       go_ret
       rw [← HEL.out]
       exact ⟨rfl, rfl⟩
     | some a =>
       clear hnil
       go_wp2
       go_ret
       rw [← HEL.out]
       exact ⟨rfl, rfl⟩
   · obtain ⟨g, o, rfl, hg, hc⟩ := hA.at_ (show k - 1 < n by omega)
     rw [nats_get] at hc
     have hkx : k - 1 < ds.length := by have := HL.out; omega
     obtain ⟨x, hx⟩ : ∃ x, ds[k - 1] = x := ⟨_, rfl⟩
     rw [hx] at hc
     have HX := Lib.hid hx
     clear hx hnil
     have hsub : IntKind.i64.wrap ((k : Int) - 1) = ((k - 1 : Nat) : Int) := by rw [IntKind.wrap_i64]; omega
     by_cases hx0 : x = 0
     · subst hx0
       go_wp2
       refine ⟨⟨k - 1, by omega, by go_num, ?_⟩, by simp [intOf]; omega⟩
       have h1 := trim_step (ds := ds) (k - 1) (by omega) (by have := HX.out; simpa [hkx] using this)
       rw [← HV.out, ← h1]
       congr 2
       omega
     · have e := trim_at HD.out k (by have := HL.out; omega) HV.out (.inr (by have := HX.out; simpa [hkx, this] using hx0))
       have el : k = (dig (val ds)).length := by rw [← e, List.length_take]; have := HL.out; omega
       have HEL := Lib.hid el
       clear e el
       go_wp2
       go_ret
       rw [← HEL.out]
       exact ⟨rfl, rfl⟩
set_option maxRecDepth 100000 in
set_option maxHeartbeats 1000000 in
theorem trimmed_any (A : Option Addr) (n c : Nat) (ds : List Nat) (w : World) (hA : VRow w A n (nats ds)) (hd : Digs ds) (hnc : n ≤ c) (hc : c ≤ maxLen) (hnil : A = none → c = 0) :
   Calls Tryz.prog 135 #[.slice A n c] w fun e w' => e = .returned (.slice A (dig (val ds)).length (dig (val ds)).length) ∧ w' = w := by
 unfold maxLen at hc
 have HL := Lib.hid (show ds.length = n by simpa [nats_len] using hA.1)
 have HD := Lib.hid hd
 clear hd
 go_enter Tryz.func135, Tryz.ntmps135
 go_wp2
 go_loop [3] (fun i => ∃ k : Nat, k ≤ n ∧ i = .int .i64 k ∧ val (ds.take k) = val ds) (fun i => (intOf i).toNat)
 case atStart => exact ⟨n, Nat.le_refl _, rfl, by rw [List.take_of_length_le (by have := HL.out; omega)]⟩
 case round =>
   obtain ⟨k, hk, rfl, hv⟩ := hrel
   have HV := Lib.hid hv
   clear hv
   by_cases h0 : k = 0
   · subst h0
     have e := trim_at HD.out 0 (Nat.zero_le _) HV.out (.inl rfl)
     have el : 0 = (dig (val ds)).length := by rw [← e]; rfl
     have HEL := Lib.hid el
     clear e el
     cases A with
     | none =>
       have hc0 := hnil rfl
       subst hc0
       obtain rfl : n = 0 := by omega
       go_wp2
       go_ret
       rw [← HEL.out]
       exact ⟨rfl, rfl⟩
     | some a =>
       clear hnil
       go_wp2
       go_ret
       rw [← HEL.out]
       exact ⟨rfl, rfl⟩
   · obtain ⟨g, o, rfl, hg, hc⟩ := hA.at_ (show k - 1 < n by omega)
     rw [nats_get] at hc
     have hkx : k - 1 < ds.length := by have := HL.out; omega
     obtain ⟨x, hx⟩ : ∃ x, ds[k - 1] = x := ⟨_, rfl⟩
     rw [hx] at hc
     have HX := Lib.hid hx
     clear hx hnil
     have hsub : IntKind.i64.wrap ((k : Int) - 1) = ((k - 1 : Nat) : Int) := by rw [IntKind.wrap_i64]; omega
     by_cases hx0 : x = 0
     · subst hx0
       go_wp2
       refine ⟨⟨k - 1, by omega, by go_num, ?_⟩, by simp [intOf]; omega⟩
       have h1 := trim_step (ds := ds) (k - 1) (by omega) (by have := HX.out; simpa [hkx] using this)
       rw [← HV.out, ← h1]
       congr 2
       omega
     · have e := trim_at HD.out k (by have := HL.out; omega) HV.out (.inr (by have := HX.out; simpa [hkx, this] using hx0))
       have el : k = (dig (val ds)).length := by rw [← e, List.length_take]; have := HL.out; omega
       have HEL := Lib.hid el
       clear e el
       go_wp2
       go_ret
       rw [← HEL.out]
       exact ⟨rfl, rfl⟩
end Go.Proofs.YtaboodioabopnaaGreat
namespace Go.Proofs.YtaboodioabopnaaGreat
open Go.RowKit Nt
set_option linter.unusedVariables false
theorem cell_new (w : World) (x : Value) (t : TypeId) : ∀ j u, [x][j]? = some u → (w.alloc (.cells #[x] t)).cell? ((⟨w.heap.size, 0, none⟩ : Addr).add j) = some u := by
 intro j u hj
 cases j with
 | zero => simp at hj; subst hj; simp [Addr.add]
 | succ j => simp at hj
set_option maxRecDepth 100000 in
set_option maxHeartbeats 1000000 in
theorem natOf_spec (z : Int) (w : World) (hz : z ≤ 9223372036854775807) :
   Calls Tryz.prog 99 #[.int .i64 z] w (OwnR 3 (nats (dig z.toNat)) w) := by
 obtain ⟨i0, hi, hz0, hz1, hz2⟩ := info_parts info_int
 go_enter Tryz.func99, Tryz.ntmps99
 go_wp2
 go_loopw [0, 3] (fun i v wr => ∃ (y : Int) (ps : List Nat), y ≤ 9223372036854775807 ∧ i = .int .i64 y ∧ wr.ownsRow w.heap.size 3 1 v ps.length (nats ps) ∧ Below w.heap.size w wr ∧ ps ++ dig y.toNat = dig z.toNat) (fun i _ _ => (intOf i).toNat)
 case atStart => exact ⟨z, [], hz, rfl, World.ownsRow_made w #[] 0 (Nat.le_refl _) (Nat.zero_le _) rfl, (Below.refl _ _).alloc (Nat.le_refl _) _, rfl⟩
 case round =>
   obtain ⟨y, ps, hy, rfl, ho, hb, he⟩ := hrel
   have hlen : ps.length ≤ 4 := by
     have h1 : (dig z.toNat).length ≤ 4 := dig_len (by omega)
     rw [← he, List.length_append] at h1
     omega
   have HO := Lib.hid ho
   have HB := Lib.hid hb
   have HE := Lib.hid he
   clear ho hb he
   by_cases hlt : 0 < y
   · obtain ⟨m, rfl⟩ : ∃ m : Nat, y = m := ⟨y.toNat, by omega⟩
     have HCELL := Lib.hid (cell_new wr (.int .i64 ((m : Int) % 1000000000)) 3)
     go_wp2_with (at_builtin; refine wpList_append_own _ rfl (.tmp 7) (.tmp 10) 33 rfl w.heap.size 3 i0 _ 1 8 Tryz.underlying33 hi hz0 hz1 hz2 rfl (by decide) u3 ps.length (nats ps) rfl (HO.out.alloc _) ⟨wr.heap.size, 0, none⟩ 1 1 [.int .i64 ((m : Int) % 1000000000)] rfl rfl HCELL.out (by simp [Value.oneCell']) (by unfold maxLen; omega) (by omega) (by have := HB.out.size; simp; omega) ?_; intro v' w4 hown' hgrow _)
     have HW := Lib.hid hown'
     have HG := Lib.hid hgrow
     clear hown' hgrow
     go_wp2
     refine ⟨⟨(m / 1000000000 : Nat), ps ++ [m % 1000000000], by omega, by go_num, ?_, ?_, ?_⟩, by simp [intOf]; omega⟩
     · rw [List.length_append, nats_app]; exact HW.out
     · exact (HB.out.alloc HB.out.size _).grown HG.out (by have := HB.out.size; simp; omega) (fun k hk => (HO.out.lt k hk).1)
     · have h1 := HE.out
       rw [Int.toNat_natCast] at h1 ⊢
       rw [List.append_assoc, List.singleton_append, ← dig_pos (by omega)]
       exact h1
   · go_wp2
     go_ret
     have e0 : y.toNat = 0 := by omega
     have h1 := HE.out
     rw [e0, dig_zero, List.append_nil] at h1
     rw [← h1]
     exact ⟨_, rfl, OwnV.of_own HO.out, HB.out⟩
set_option maxRecDepth 100000 in
set_option maxHeartbeats 1000000 in
theorem natOf_impl (z : Int) (w : World) (hz : z ≤ 9223372036854775807) :
   Calls Tryz.prog 129 #[.int .i64 z] w (OwnR 3 (nats (dig z.toNat)) w) := by
 obtain ⟨i0, hi, hz0, hz1, hz2⟩ := info_parts info_int
 go_enter Tryz.func129, Tryz.ntmps129
 go_wp2
 go_loopw [0, 3] (fun i v wr => ∃ (y : Int) (ps : List Nat), y ≤ 9223372036854775807 ∧ i = .int .i64 y ∧ wr.ownsRow w.heap.size 3 1 v ps.length (nats ps) ∧ Below w.heap.size w wr ∧ ps ++ dig y.toNat = dig z.toNat) (fun i _ _ => (intOf i).toNat)
 case atStart => exact ⟨z, [], hz, rfl, World.ownsRow_nil _ _ _ _, Below.refl _ _, rfl⟩
 case round =>
   obtain ⟨y, ps, hy, rfl, ho, hb, he⟩ := hrel
   have hlen : ps.length ≤ 4 := by
     have h1 : (dig z.toNat).length ≤ 4 := dig_len (by omega)
     rw [← he, List.length_append] at h1
     omega
   have HO := Lib.hid ho
   have HB := Lib.hid hb
   have HE := Lib.hid he
   clear ho hb he
   by_cases hlt : 0 < y
   · obtain ⟨m, rfl⟩ : ∃ m : Nat, y = m := ⟨y.toNat, by omega⟩
     have HCELL := Lib.hid (cell_new wr (.int .i64 ((m : Int) % 1000000000)) 3)
     go_wp2_with (at_builtin; refine wpList_append_own _ rfl (.tmp 6) (.tmp 9) 33 rfl w.heap.size 3 i0 _ 1 8 Tryz.underlying33 hi hz0 hz1 hz2 rfl (by decide) u3 ps.length (nats ps) rfl (HO.out.alloc _) ⟨wr.heap.size, 0, none⟩ 1 1 [.int .i64 ((m : Int) % 1000000000)] rfl rfl HCELL.out (by simp [Value.oneCell']) (by unfold maxLen; omega) (by omega) (by have := HB.out.size; simp; omega) ?_; intro v' w4 hown' hgrow _)
     have HW := Lib.hid hown'
     have HG := Lib.hid hgrow
     clear hown' hgrow
     go_wp2
     refine ⟨⟨(m / 1000000000 : Nat), ps ++ [m % 1000000000], by omega, by go_num, ?_, ?_, ?_⟩, by simp [intOf]; omega⟩
     · rw [List.length_append, nats_app]; exact HW.out
     · exact (HB.out.alloc HB.out.size _).grown HG.out (by have := HB.out.size; simp; omega) (fun k hk => (HO.out.lt k hk).1)
     · have h1 := HE.out
       rw [Int.toNat_natCast] at h1 ⊢
       rw [List.append_assoc, List.singleton_append, ← dig_pos (by omega)]
       exact h1
   · go_wp2
     go_ret
     have e0 : y.toNat = 0 := by omega
     have h1 := HE.out
     rw [e0, dig_zero, List.append_nil] at h1
     rw [← h1]
     exact ⟨_, rfl, OwnV.of_own HO.out, HB.out⟩
end Go.Proofs.YtaboodioabopnaaGreat
namespace Go.Proofs.YtaboodioabopnaaGreat
open Go.RowKit Nt
set_option linter.unusedVariables false
theorem whole_heap {w : World} {base g : Nat} {e : TypeId} {ys : List Value} (h : Whole w base g e ys) : w.heap[g]? = some (.cells ys.toArray e (0, 0)) := by
 rcases h.2 with ⟨hv, _⟩ | ⟨g', cap, cur, hv, hb, hh, hnc, hcm, hcs, ht⟩
 · simp at hv
 · obtain ⟨rfl, rfl⟩ : g = g' ∧ ys.length = cap := by simpa using hv
   rw [hh]
   have e : cur.toList = ys := by
     rw [← ht, List.take_of_length_le]
     have : cur.toList.length = cur.size := by simp
     omega
   rw [← e]
theorem whole_of {w : World} {base g : Nat} {e : TypeId} {ys : List Value} (hb : base ≤ g) (h : w.heap[g]? = some (.cells ys.toArray e (0, 0))) (hl : ys.length ≤ maxLen) : Whole w base g e ys :=
 ⟨by simp, .inr ⟨g, _, ys.toArray, rfl, hb, h, Nat.le_refl _, hl, by simp, by simp⟩⟩
def upd (Y : List Nat) (o k : Nat) (F : Nat → Nat) : List Nat := Y.take o ++ ((List.range k).map F ++ Y.drop (o + k))
theorem upd_len (Y : List Nat) (o k : Nat) (F : Nat → Nat) (h : o + k ≤ Y.length) : (upd Y o k F).length = Y.length := by simp [upd]; omega
theorem upd_zero (Y : List Nat) (o : Nat) (F : Nat → Nat) : upd Y o 0 F = Y := by simp [upd]
theorem upd_get? (Y : List Nat) (o k : Nat) (F : Nat → Nat) (h : o + k < Y.length) : (upd Y o k F)[o + k]? = some Y[o + k] := by
 unfold upd
 rw [List.getElem?_append_right (by simp; omega), List.getElem?_append_right (by simp; omega), List.getElem?_drop]
 have e : o + k + (o + k - (Y.take o).length - ((List.range k).map F).length) = o + k := by simp; omega
 rw [e, List.getElem?_eq_getElem h]
theorem upd_set (Y : List Nat) (o k : Nat) (F : Nat → Nat) (h : o + k < Y.length) : (upd Y o k F).set (o + k) (F k) = upd Y o (k + 1) F := by
 unfold upd
 rw [List.set_append_right _ _ (by simp; omega)]
 have e : o + k - (Y.take o).length = k := by simp; omega
 have s := set_step F (Y.drop o) k (by simp; omega)
 rw [List.drop_drop, List.drop_drop] at s
 rw [e, s]
theorem digs_upd {Y : List Nat} {o k : Nat} {F : Nat → Nat} (hY : Digs Y) (hF : Digs ((List.range k).map F)) : Digs (upd Y o k F) := (hY.take o).app (hF.app (hY.drop _))
theorem win_getD (Y : List Nat) (o n k : Nat) (hk : k < n) (h : o + n ≤ Y.length) : ((Y.drop o).take n).getD k 0 = Y[o + k]'(by omega) := by
 rw [List.getD_eq_getElem?_getD, List.getElem?_take_of_lt hk, List.getElem?_drop, List.getElem?_eq_getElem (by omega)]
 rfl
theorem add_off (g o k : Nat) : (⟨g, o, none⟩ : Addr).add k = ⟨g, o + k, none⟩ := by unfold Addr.add; split <;> simp_all
theorem run_copy_any {P : Program} {w : World} (dT sT ty elem : TypeId) (hu : P.underlying dT = some (.slice elem)) (hsz : (P.info? elem).map (·.size) = some 1)
   (dp sp : Option Addr) (dLen dCap sLen sCap : Nat) (g off : Nat) (cur : List Value) (t : TypeId) (hg : w.heap[g]? = some (.cells cur.toArray t (0, 0))) (cs : List Value) (hn : cs.length = Nat.min sLen dLen)
   (hpos : 0 < cs.length → dp = some ⟨g, off, none⟩ ∧ ∃ ad, sp = some ad ∧ ∀ j v, cs[j]? = some v → w.cell? (ad.add j) = some v)
   (hfit : off + cs.length ≤ cur.length) (h1 : ∀ v ∈ cs, v.oneCell' = true) (B : Nat) (w0 : World) (hb : Below B w0 w) (hBg : B ≤ g) :
   ∃ w', (Builtin.copy_ #[dT, sT] ty #[.slice dp dLen dCap, .slice sp sLen sCap]).run P w = .ok (goInt cs.length) w' ∧ w'.heap[g]? = some (.cells (splice cur off cs).toArray t (0, 0)) ∧ Below B w0 w' := by
 by_cases h0 : cs.length = 0
 · obtain rfl : cs = [] := List.eq_nil_of_length_eq_zero h0
   exact ⟨w, run_copy_none (P := P) w dT sT ty elem dp sp dLen dCap sLen sCap hu hsz (by simpa using hn.symm), by simpa [splice] using hg, hb⟩
 · obtain ⟨rfl, ad, rfl, hsrc⟩ := hpos (by omega)
   exact ⟨_, run_copy_row (P := P) w dT sT ty elem g off dLen dCap ad sLen sCap cur.toArray t cs hu hsz hg hn hsrc (by simpa using hfit) h1, by simpa [splice] using setRow_heap w g _ _ t _ hg, below_setRow hb hBg _⟩
theorem VRow.off {w : World} {B : Option Addr} {m g : Nat} {xs : List Value} (h : VRow w B m xs) (hg : w.heap.size ≤ g) : 0 < m → ∀ a : Addr, B = some a → a.block ≠ g := by
 intro hm a ha
 obtain ⟨g', o, rfl, hlt, _⟩ := h.2 hm
 obtain rfl : (⟨g', o, none⟩ : Addr) = a := by simpa using ha
 simp; omega
theorem nats_replicate (n : Nat) : nats (List.replicate n 0) = List.replicate n (.int .i64 0) := by simp [nats, ints]
theorem nats_oneCell (ds : List Nat) : ∀ v ∈ nats ds, v.oneCell' = true := by
 intro v hv
 simp [nats, ints] at hv
 obtain ⟨a, _, rfl⟩ := hv
 rfl
set_option maxRecDepth 100000 in
set_option maxHeartbeats 1000000 in
theorem rowOf_any (A : Option Addr) (n c m : Nat) (M : Int) (hM : M = (m : Int)) (ds : List Nat) (w : World) (hA : VRow w A n (nats ds)) (hnm : n ≤ m) (hm : m ≤ 1048576) :
   Calls Tryz.prog 119 #[.slice A n c, .int .i64 M] w fun e w' => e = .returned (.slice (some ⟨w.heap.size, 0, none⟩) m m) ∧ Whole w' w.heap.size w.heap.size 3 (nats (ds ++ List.replicate (m - n) 0)) ∧ Below w.heap.size w w' := by
 subst hM
 obtain ⟨i0, hi, hz0, hz1, hz2⟩ := info_parts info_int
 have HL := Lib.hid (show ds.length = n by simpa [nats_len] using hA.1)
 have HA := Lib.hid hA
 clear hA
 go_enter Tryz.func119, Tryz.ntmps119
 go_wp2_with (at_make; refine wpList_make_full _ rfl _ _ _ rfl w.heap.size 3 i0 _ 1 Tryz.underlying33 hi hz0 hz1 .i64 .i64 _ _ m rfl rfl rfl rfl (by rw [hz2]; omega) (by unfold maxLen; omega) (Nat.le_refl _) ?_; intro w1 hown hgrow)
 have HB := Lib.hid ((Below.refl w.heap.size w).grown hgrow (Nat.le_refl _) (by simp))
 have hz : (madeCells (Value.int .i64 0).cells (m * 1)).toList = nats (List.replicate m 0) := by
   rw [nats_replicate, Nat.mul_one]; exact toList_madeCells_one _ _
 rw [hz] at hown
 have hW : Whole w1 w.heap.size w.heap.size 3 (nats (List.replicate m 0)) := by
   unfold Whole
   rw [nats_len, List.length_replicate]
   exact hown
 have HW := Lib.hid hW
 clear hown hgrow hz hW
 obtain ⟨X, hX⟩ : ∃ X, X = nats ds := ⟨_, rfl⟩
 have HX := Lib.hid hX
 have hXl : X.length = n := by rw [hX, nats_len, HL.out]
 clear hX
 obtain ⟨Z, hZ⟩ : ∃ Z, Z = nats (List.replicate m 0) := ⟨_, rfl⟩
 have HZ := Lib.hid hZ
 have HZl := Lib.hid (show Z.length = m by rw [hZ, nats_len, List.length_replicate])
 rw [← hZ] at HW
 clear hZ
 have HXL := Lib.hid hXl
 clear hXl
 have HA1 := Lib.hid (HA.out.below HB.out (Nat.le_refl _))
 have hpos : 0 < X.length → some (⟨w.heap.size, 0, none⟩ : Addr) = some ⟨w.heap.size, 0, none⟩ ∧ ∃ ad, A = some ad ∧ ∀ j v, X[j]? = some v → w1.cell? (ad.add j) = some v := by
   intro hp
   refine ⟨rfl, ?_⟩
   obtain ⟨g, o, rfl, hg, hc⟩ := HA1.out.2 (by rw [HXL.out] at hp; exact hp)
   refine ⟨_, rfl, fun j v hv => ?_⟩
   have hj : j < n := by
     have := (List.getElem?_eq_some_iff.mp hv).1
     rw [HXL.out] at this; exact this
   have := hc j hj
   rw [← HX.out, hv] at this
   rw [add_off]; exact this
 have HP := Lib.hid hpos
 have HMN := Lib.hid (show X.length = Nat.min n m by rw [HXL.out]; exact (Nat.min_eq_left hnm).symm)
 have HFI := Lib.hid (show 0 + X.length ≤ Z.length by rw [HXL.out, HZl.out]; omega)
 have HOC := Lib.hid (show ∀ v ∈ X, v.oneCell' = true by rw [HX.out]; exact nats_oneCell ds)
 have HSZ := Lib.hid (show (Tryz.prog.info? 3).map (·.size) = some 1 by rw [hi]; simp [hz1])
 clear hpos
 obtain ⟨w2, hrun, hw2, hb2⟩ := run_copy_any (P := Tryz.prog) 33 33 3 3 Tryz.underlying33 HSZ.out _ _ m m n c w.heap.size 0 Z 3 (whole_heap HW.out) X HMN.out HP.out HFI.out HOC.out w.heap.size w HB.out (Nat.le_refl _)
 have HW2 := Lib.hid hw2
 clear hw2
 have HB2 := Lib.hid hb2
 clear hb2
 go_wp2
 go_ret
 refine ⟨rfl, ?_, HB2.out⟩
 have h := HW2.out
 have e : splice Z 0 X = nats (ds ++ List.replicate (m - n) 0) := by
   rw [splice, HX.out, HZ.out, nats_app]
   simp only [List.take_zero, List.nil_append, Nat.zero_add, nats_len, HL.out]
   rw [nats_drop, List.drop_replicate]
 rw [e] at h
 exact whole_of (Nat.le_refl _) h (by rw [nats_len, List.length_append, List.length_replicate, HL.out]; unfold maxLen; omega)
def capd (n : Nat) : List Nat := if (dig n).length ≤ 60 then dig n else []
theorem capd_len (n : Nat) : (capd n).length ≤ 60 := by unfold capd; split <;> simp_all
theorem capd_of {n : Nat} (h : n < 1000000000 ^ 60) : capd n = dig n := by rw [capd, if_pos (dig_len h)]
theorem OwnV.of_whole {w : World} {base g : Nat} {e : TypeId} {ys : List Value} (h : Whole w base g e ys) : OwnV w base e (.slice (some ⟨g, 0, none⟩) ys.length ys.length) ys :=
 .inr ⟨g, _, ys, rfl, Nat.le_refl _, Nat.le_refl _, h, List.take_length⟩
theorem dig_le_len {ds : List Nat} (h : Digs ds) : (dig (val ds)).length ≤ ds.length := dig_len (val_lt h)
theorem take_dig {ds : List Nat} (h : Digs ds) : ds.take (dig (val ds)).length = dig (val ds) := by
 exact canon_pre h
set_option maxRecDepth 100000 in
set_option maxHeartbeats 1000000 in
theorem natOrNil_any (g n base : Nat) (ds : List Nat) (hl : ds.length = n) (w : World) (hW : Whole w base g 3 (nats ds)) (hd : Digs ds) (hn : n ≤ 1048576) :
   Calls Tryz.prog 116 #[.slice (some ⟨g, 0, none⟩) n n] w fun e w' => (∃ v, e = .returned v ∧ OwnV w base 3 v (nats (capd (val ds))) ∧ (v.ownBlock = none ∨ v.ownBlock = some g)) ∧ w' = w := by
 have hr : VRow w (some ⟨g, 0, none⟩) n (nats ds) := by
   have h := hW.row 0 n (by rw [nats_len]; omega)
   rw [List.drop_zero, List.take_of_length_le (by rw [nats_len]; omega)] at h
   exact h
 have hv := OwnV.of_whole hW
 rw [nats_len, hl] at hv
 have hk := dig_le_len hd
 have hc := hv.cut (m := (dig (val ds)).length) (c2 := (dig (val ds)).length) (by omega) (Nat.le_refl _) (by omega)
 rw [nats_take, take_dig hd] at hc
 have HR := Lib.hid hr
 have HC := Lib.hid hc
 have HD := Lib.hid hd
 clear hr hc hd hv hW
 go_enter Tryz.func116, Tryz.ntmps116
 go_wp2_with fail
 refine (trimmed_any _ n n ds _ HR.out HD.out (Nat.le_refl _) (by unfold maxLen; omega) (fun h => by simp at h)).mono ?_
 rintro e w1 ⟨rfl, rfl⟩
 have HK := Lib.hid (show capd (val ds) = if (dig (val ds)).length ≤ 60 then dig (val ds) else [] from rfl)
 by_cases h60 : (dig (val ds)).length ≤ 60
 · have e : capd (val ds) = dig (val ds) := by rw [HK.out, if_pos h60]
   have HE := Lib.hid e
   clear e
   generalize hm : (dig (val ds)).length = m at *
   have HM := Lib.hid hm
   clear hm
   go_wp2
   go_ret
   refine ⟨⟨_, rfl, ?_, .inr rfl⟩, rfl⟩
   rw [HE.out]
   exact HC.out
 · have e : capd (val ds) = [] := by rw [HK.out, if_neg h60]
   have HE := Lib.hid e
   clear e
   generalize hm : (dig (val ds)).length = m at *
   have HM := Lib.hid hm
   clear hm
   go_wp2
   go_ret
   refine ⟨⟨_, rfl, ?_, .inl rfl⟩, rfl⟩
   rw [HE.out]
   exact OwnV.nil _ _ _
set_option maxRecDepth 100000 in
set_option maxHeartbeats 2000000 in
theorem addTimes_any (g o n c base : Nat) (Y : List Nat) (B : Option Addr) (m d : Nat) (bs : List Nat) (f : Nat) (F : Int) (hF : F = (f : Int)) (w : World)
   (hW : Whole w base g 3 (nats Y)) (hon : o + n ≤ Y.length) (hY : Digs Y) (hB : VRow w B m (nats bs)) (hBg : 0 < m → ∀ a : Addr, B = some a → a.block ≠ g) (hb : Digs bs) (hf : f < 1000000000) (hn : n ≤ 1048576) (hm : m ≤ 1048576) :
   Calls Tryz.prog 115 #[.slice (some ⟨g, o, none⟩) n c, .slice B m d, .int .i64 F] w fun e w' => e = .returned (.tuple #[]) ∧ Whole w' base g 3 (nats (upd Y o n (sumAt ((Y.drop o).take n) bs f))) ∧ w.grownBy w' (some g) := by
 subst hF
 obtain ⟨ys, hys⟩ : ∃ ys, (Y.drop o).take n = ys := ⟨_, rfl⟩
 have HYS := Lib.hid hys
 have hyd : Digs ys := hys ▸ (hY.drop o).take n
 have HML := Lib.hid (show bs.length = m by simpa [nats_len] using hB.1)
 rw [hys]
 have HW := Lib.hid hW
 have HY := Lib.hid hY
 have HBs := Lib.hid hb
 have HB := Lib.hid hB
 have HBG := Lib.hid hBg
 have HYD := Lib.hid hyd
 clear hys hW hY hb hB hBg hyd
 go_enter Tryz.func115, Tryz.ntmps115
 go_wp2
 go_loopw [6, 11] (fun cr i wr => ∃ k q : Nat, k ≤ n ∧ i = .int .i64 k ∧ cr = .int .i64 (car ys bs f k : Nat) ∧ Whole wr base g 3 (nats (upd Y o k (sumAt ys bs f))) ∧ w.grownBy wr (some g)) (fun _ i _ => n - (intOf i).toNat)
 case atStart => exact ⟨0, 0, Nat.zero_le _, rfl, rfl, by rw [upd_zero]; exact HW.out, World.grownBy.refl _ _⟩
 case round =>
   obtain ⟨k, q, hk, rfl, rfl, hw, hg⟩ := hrel
   have HW' := Lib.hid hw
   have HG := Lib.hid hg
   clear hw hg
   by_cases hlt : k < n
   · have hok : o + k < Y.length := by omega
     have hul : (upd Y o k (sumAt ys bs f)).length = Y.length := upd_len _ _ _ _ (by omega)
     have hcell : wr.cell? ⟨g, o + k, none⟩ = some (.int .i64 ((Y[o + k]'hok : Nat) : Int)) := by
       have h := HW'.out.cell (o + k) (by rw [nats_len]; omega)
       rw [h, nats_get]
       congr 3
       have := upd_get? Y o k (sumAt ys bs f) (by omega)
       rw [List.getElem?_eq_getElem (by omega)] at this
       simpa using this
     have hyk : ys.getD k 0 = Y[o + k]'hok := by have h := win_getD Y o n k hlt hon; rw [HYS.out] at h; exact h
     obtain ⟨y, hy⟩ : ∃ y, Y[o + k]'hok = y := ⟨_, rfl⟩
     rw [hy] at hcell hyk
     have hyb : y < 1000000000 := by rw [← hyk]; exact HYD.out.getD k
     have hcb := car_lt ys bs f k HYD.out HBs.out hf
     have hfz := HW'.out.frozen (o + k)
     have hsum : sumAt ys bs f k = (ys.getD k 0 + car ys bs f k + bs.getD k 0 * f) % 1000000000 := rfl
     have hcar : car ys bs f (k + 1) = (ys.getD k 0 + car ys bs f k + bs.getD k 0 * f) / 1000000000 := rfl
     rw [hyk] at hsum hcar
     have HSET := Lib.hid (fun u => HW'.out.set (o + k) u)
     have HSG := Lib.hid (fun u => HW'.out.setGrown (o + k) u)
     have HUS := Lib.hid (upd_set Y o k (sumAt ys bs f) (by omega))
     have hkz : (k : Int) < (n : Int) := by omega
     obtain ⟨cr, hcr⟩ : ∃ cr, car ys bs f k = cr := ⟨_, rfl⟩
     rw [hcr] at hcb hsum hcar ⊢
     clear hul hy hyk hcr
     by_cases hkm : k < m
     · obtain ⟨g', o', rfl, hg', hc'⟩ := (HB.out.grown HG.out (fun a ha => by have := HBG.out (by omega) a ha; simp; omega)).at_ hkm
       rw [nats_get] at hc'
       have hkb : k < bs.length := by have := HML.out; omega
       obtain ⟨x, hx⟩ : ∃ x, bs[k] = x := ⟨_, rfl⟩
       have hxb : x < 1000000000 := hx ▸ HBs.out.get hkb
       have hgd : bs.getD k 0 = x := by rw [← hx]; simp [hkb]
       rw [hx] at hc'
       rw [hgd] at hsum hcar
       obtain ⟨p, hp⟩ : ∃ p, x * f = p := ⟨_, rfl⟩
       have hpb : p ≤ 999999999 * 999999999 := by rw [← hp]; exact Nat.mul_le_mul (by omega) (by omega)
       rw [hp] at hsum hcar
       have hpz : (x : Int) * (f : Int) = (p : Int) := by rw [← hp]; simp
       have HSUM := Lib.hid hsum
       have HCAR := Lib.hid hcar
       clear hsum hcar hx hp hgd
       have hkmz : (k : Int) < (m : Int) := by omega
       go_wp2
       have e1 : ((y : Int) + cr + p) % 1000000000 = ((sumAt ys bs f k : Nat) : Int) := by rw [HSUM.out]; omega
       have e2 : ((y : Int) + cr + p) / 1000000000 = ((car ys bs f (k + 1) : Nat) : Int) := by rw [HCAR.out]; omega
       refine ⟨⟨k + 1, 0, by omega, by go_num, ?_, ?_, ?_⟩, by simp [intOf]; omega⟩
       · rw [← e2]
       · have h := HSET.out (.int .i64 ((sumAt ys bs f k : Nat) : Int))
         rw [nats_set, HUS.out, ← e1] at h
         exact h
       · exact grown_grown HG.out (HSG.out _)
     · have hgd : bs.getD k 0 = 0 := by
         have := HML.out
         simp [List.getElem?_eq_none (show bs.length ≤ k by omega)]
       rw [hgd, Nat.zero_mul, Nat.add_zero] at hsum hcar
       have HSUM := Lib.hid hsum
       have HCAR := Lib.hid hcar
       clear hsum hcar hgd
       have hkmz : ¬ (k : Int) < (m : Int) := by omega
       go_wp2
       have e1 : ((y : Int) + cr) % 1000000000 = ((sumAt ys bs f k : Nat) : Int) := by rw [HSUM.out]; omega
       have e2 : ((y : Int) + cr) / 1000000000 = ((car ys bs f (k + 1) : Nat) : Int) := by rw [HCAR.out]; omega
       refine ⟨⟨k + 1, 0, by omega, by go_num, ?_, ?_, ?_⟩, by simp [intOf]; omega⟩
       · rw [← e2]
       · have h := HSET.out (.int .i64 ((sumAt ys bs f k : Nat) : Int))
         rw [nats_set, HUS.out, ← e1] at h
         exact h
       · exact grown_grown HG.out (HSG.out _)
   · go_wp2
     go_end0
     obtain rfl : k = n := by omega
     exact ⟨rfl, HW'.out, HG.out⟩
theorem Whole.set2 {w : World} {base g : Nat} {e : TypeId} {ys : List Value} (h : Whole w base g e ys) (j : Nat) (u v : Value) : Whole ((w.setCell ⟨g, j, none⟩ u).setCell ⟨g, j, none⟩ v) base g e (ys.set j v) := by
 have := (h.set j u).set j v
 rwa [List.set_set] at this
theorem Whole.set2Grown {w : World} {base g : Nat} {e : TypeId} {ys : List Value} (h : Whole w base g e ys) (j : Nat) (u v : Value) : w.grownBy ((w.setCell ⟨g, j, none⟩ u).setCell ⟨g, j, none⟩ v) (some g) :=
 grown_grown (h.setGrown j u) ((h.set j u).setGrown j v)
set_option maxRecDepth 100000 in
set_option maxHeartbeats 2000000 in
theorem subtractTimes_any (g o n c base : Nat) (Y : List Nat) (B : Option Addr) (m d : Nat) (bs : List Nat) (f : Nat) (F : Int) (hF : F = (f : Int)) (w : World)
   (hW : Whole w base g 3 (nats Y)) (hon : o + n ≤ Y.length) (hY : Digs Y) (hB : VRow w B m (nats bs)) (hBg : 0 < m → ∀ a : Addr, B = some a → a.block ≠ g) (hb : Digs bs) (hf : f ≤ 1000000000) (hn : n ≤ 1048576) (hm : m ≤ 1048576) :
   Calls Tryz.prog 139 #[.slice (some ⟨g, o, none⟩) n c, .slice B m d, .int .i64 F] w fun e w' => e = .returned (.int .i64 (bor ((Y.drop o).take n) bs f n : Nat)) ∧ Whole w' base g 3 (nats (upd Y o n (difAt ((Y.drop o).take n) bs f))) ∧ w.grownBy w' (some g) := by
 subst hF
 obtain ⟨ys, hys⟩ : ∃ ys, (Y.drop o).take n = ys := ⟨_, rfl⟩
 have HYS := Lib.hid hys
 have hyd : Digs ys := hys ▸ (hY.drop o).take n
 have HML := Lib.hid (show bs.length = m by simpa [nats_len] using hB.1)
 rw [hys]
 have HW := Lib.hid hW
 have HY := Lib.hid hY
 have HBs := Lib.hid hb
 have HB := Lib.hid hB
 have HBG := Lib.hid hBg
 have HYD := Lib.hid hyd
 clear hys hW hY hb hB hBg hyd
 go_enter Tryz.func139, Tryz.ntmps139
 go_wp2
 go_loopw [7, 12] (fun cr i wr => ∃ k : Nat, k ≤ n ∧ i = .int .i64 k ∧ cr = .int .i64 (bor ys bs f k : Nat) ∧ Whole wr base g 3 (nats (upd Y o k (difAt ys bs f))) ∧ w.grownBy wr (some g)) (fun _ i _ => n - (intOf i).toNat)
 case atStart => exact ⟨0, Nat.zero_le _, rfl, rfl, by rw [upd_zero]; exact HW.out, World.grownBy.refl _ _⟩
 case round =>
   obtain ⟨k, hk, rfl, rfl, hw, hg⟩ := hrel
   have HW' := Lib.hid hw
   have HG := Lib.hid hg
   clear hw hg
   by_cases hlt : k < n
   · have hok : o + k < Y.length := by omega
     have hul : (upd Y o k (difAt ys bs f)).length = Y.length := upd_len _ _ _ _ (by omega)
     have hcell : wr.cell? ⟨g, o + k, none⟩ = some (.int .i64 ((Y[o + k]'hok : Nat) : Int)) := by
       have h := HW'.out.cell (o + k) (by rw [nats_len]; omega)
       rw [h, nats_get]
       congr 3
       have := upd_get? Y o k (difAt ys bs f) (by omega)
       rw [List.getElem?_eq_getElem (by omega)] at this
       simpa using this
     have hyk : ys.getD k 0 = Y[o + k]'hok := by have h := win_getD Y o n k hlt hon; rw [HYS.out] at h; exact h
     obtain ⟨y, hy⟩ : ∃ y, Y[o + k]'hok = y := ⟨_, rfl⟩
     rw [hy] at hcell hyk
     have hyb : y < 1000000000 := by rw [← hyk]; exact HYD.out.getD k
     have hcb := bor_le ys bs f k HBs.out hf
     have hfz := HW'.out.frozen (o + k)
     have hdif : difAt ys bs f k = if ys.getD k 0 < (bor ys bs f k + bs.getD k 0 * f) % 1000000000 then ys.getD k 0 + 1000000000 - (bor ys bs f k + bs.getD k 0 * f) % 1000000000 else ys.getD k 0 - (bor ys bs f k + bs.getD k 0 * f) % 1000000000 := rfl
     have hbor : bor ys bs f (k + 1) = (bor ys bs f k + bs.getD k 0 * f) / 1000000000 + if ys.getD k 0 < (bor ys bs f k + bs.getD k 0 * f) % 1000000000 then 1 else 0 := rfl
     rw [hyk] at hdif hbor
     have HSET := Lib.hid (fun u => HW'.out.set (o + k) u)
     have HSG := Lib.hid (fun u => HW'.out.setGrown (o + k) u)
     have HUS := Lib.hid (upd_set Y o k (difAt ys bs f) (by omega))
     have hkz : (k : Int) < (n : Int) := by omega
     obtain ⟨cr, hcr⟩ : ∃ cr, bor ys bs f k = cr := ⟨_, rfl⟩
     rw [hcr] at hcb hdif hbor ⊢
     clear hul hy hyk hcr
     have key : ∀ p : Nat, p ≤ 999999999 * 1000000000 → bs.getD k 0 * f = p → (y < (cr + p) % 1000000000 → difAt ys bs f k = y + 1000000000 - (cr + p) % 1000000000 ∧ bor ys bs f (k + 1) = (cr + p) / 1000000000 + 1) ∧ (¬ y < (cr + p) % 1000000000 → difAt ys bs f k = y - (cr + p) % 1000000000 ∧ bor ys bs f (k + 1) = (cr + p) / 1000000000) := by
       intro p _ hp
       rw [hp] at hdif hbor
       refine ⟨fun h => ?_, fun h => ?_⟩
       · rw [if_pos h] at hdif hbor; exact ⟨hdif, hbor⟩
       · rw [if_neg h] at hdif hbor; exact ⟨hdif, hbor⟩
     have KEY := Lib.hid key
     clear hdif hbor key
     by_cases hkm : k < m
     · obtain ⟨g', o', rfl, hg', hc'⟩ := (HB.out.grown HG.out (fun a ha => by have := HBG.out (by omega) a ha; simp; omega)).at_ hkm
       rw [nats_get] at hc'
       have hkb : k < bs.length := by have := HML.out; omega
       obtain ⟨x, hx⟩ : ∃ x, bs[k] = x := ⟨_, rfl⟩
       have hxb : x < 1000000000 := hx ▸ HBs.out.get hkb
       have hgd : bs.getD k 0 = x := by rw [← hx]; simp [hkb]
       rw [hx] at hc'
       obtain ⟨p, hp⟩ : ∃ p, x * f = p := ⟨_, rfl⟩
       have hpb : p ≤ 999999999 * 1000000000 := by rw [← hp]; exact Nat.mul_le_mul (by omega) (by omega)
       have hpz : (x : Int) * (f : Int) = (p : Int) := by rw [← hp]; simp
       have hk2 := KEY.out p hpb (by rw [hgd, hp])
       clear hx hp hgd
       have hkmz : (k : Int) < (m : Int) := by omega
       by_cases hneg : y < (cr + p) % 1000000000
       · have HK := Lib.hid (hk2.1 hneg)
         clear hk2
         have hnegz : (y : Int) - ((cr : Int) + p) % 1000000000 < 0 := by omega
         go_wp2
         have e1 : (y : Int) - ((cr : Int) + p) % 1000000000 + 1000000000 = ((difAt ys bs f k : Nat) : Int) := by rw [HK.out.1]; omega
         have e2 : ((cr : Int) + p) / 1000000000 + 1 = ((bor ys bs f (k + 1) : Nat) : Int) := by rw [HK.out.2]; omega
         refine ⟨⟨k + 1, by omega, by go_num, ?_, ?_, ?_⟩, by simp [intOf]; omega⟩
         · rw [← e2]
         · have h := HW'.out.set2 (o + k) (.int .i64 ((y : Int) - ((cr : Int) + p) % 1000000000)) (.int .i64 ((difAt ys bs f k : Nat) : Int))
           rw [nats_set, HUS.out, ← e1] at h
           exact h
         · exact grown_grown HG.out (HW'.out.set2Grown _ _ _)
       · have HK := Lib.hid (hk2.2 hneg)
         clear hk2
         have hnegz : ¬ (y : Int) - ((cr : Int) + p) % 1000000000 < 0 := by omega
         go_wp2
         have e1 : (y : Int) - ((cr : Int) + p) % 1000000000 = ((difAt ys bs f k : Nat) : Int) := by rw [HK.out.1]; omega
         have e2 : ((cr : Int) + p) / 1000000000 = ((bor ys bs f (k + 1) : Nat) : Int) := by rw [HK.out.2]; omega
         refine ⟨⟨k + 1, by omega, by go_num, ?_, ?_, ?_⟩, by simp [intOf]; omega⟩
         · rw [← e2]
         · have h := HSET.out (.int .i64 ((difAt ys bs f k : Nat) : Int))
           rw [nats_set, HUS.out, ← e1] at h
           exact h
         · exact grown_grown HG.out (HSG.out _)
     · have hgd : bs.getD k 0 = 0 := by
         have := HML.out
         simp [List.getElem?_eq_none (show bs.length ≤ k by omega)]
       have hk2 := KEY.out 0 (by omega) (by rw [hgd, Nat.zero_mul])
       rw [Nat.add_zero] at hk2
       clear hgd
       have hkmz : ¬ (k : Int) < (m : Int) := by omega
       by_cases hneg : y < cr % 1000000000
       · have HK := Lib.hid (hk2.1 hneg)
         clear hk2
         have hnegz : (y : Int) - (cr : Int) % 1000000000 < 0 := by omega
         go_wp2
         have e1 : (y : Int) - (cr : Int) % 1000000000 + 1000000000 = ((difAt ys bs f k : Nat) : Int) := by rw [HK.out.1]; omega
         have e2 : (cr : Int) / 1000000000 + 1 = ((bor ys bs f (k + 1) : Nat) : Int) := by rw [HK.out.2]; omega
         refine ⟨⟨k + 1, by omega, by go_num, ?_, ?_, ?_⟩, by simp [intOf]; omega⟩
         · rw [← e2]
         · have h := HW'.out.set2 (o + k) (.int .i64 ((y : Int) - (cr : Int) % 1000000000)) (.int .i64 ((difAt ys bs f k : Nat) : Int))
           rw [nats_set, HUS.out, ← e1] at h
           exact h
         · exact grown_grown HG.out (HW'.out.set2Grown _ _ _)
       · have HK := Lib.hid (hk2.2 hneg)
         clear hk2
         have hnegz : ¬ (y : Int) - (cr : Int) % 1000000000 < 0 := by omega
         go_wp2
         have e1 : (y : Int) - (cr : Int) % 1000000000 = ((difAt ys bs f k : Nat) : Int) := by rw [HK.out.1]; omega
         have e2 : (cr : Int) / 1000000000 = ((bor ys bs f (k + 1) : Nat) : Int) := by rw [HK.out.2]; omega
         refine ⟨⟨k + 1, by omega, by go_num, ?_, ?_, ?_⟩, by simp [intOf]; omega⟩
         · rw [← e2]
         · have h := HSET.out (.int .i64 ((difAt ys bs f k : Nat) : Int))
           rw [nats_set, HUS.out, ← e1] at h
           exact h
         · exact grown_grown HG.out (HSG.out _)
   · go_wp2
     go_ret
     obtain rfl : k = n := by omega
     exact ⟨rfl, HW'.out, HG.out⟩
end Go.Proofs.YtaboodioabopnaaGreat
namespace Go.Proofs.YtaboodioabopnaaGreat
open Go.RowKit Nt
set_option linter.unusedVariables false
theorem car_one (y b : List Nat) (k : Nat) (hy : Digs y) (hb : Digs b) : car y b 1 k ≤ 1 := by
 induction k with
 | zero => simp [car]
 | succ k ih =>
   have h1 := hy.getD k
   have h2 := hb.getD k
   simp only [car]
   omega
theorem add_val (Y bs : List Nat) (f n : Nat) (hn : Y.length = n) (hb : bs.length ≤ n) (hlt : val Y + f * val bs < 1000000000 ^ n) : val ((List.range n).map (sumAt Y bs f)) = val Y + f * val bs ∧ car Y bs f n = 0 := by
 have h := car_sum Y bs f n
 rw [List.take_of_length_le (by omega), List.take_of_length_le hb] at h
 have h0 : car Y bs f n = 0 := by
   rcases Nat.eq_zero_or_pos (car Y bs f n) with h0 | h0
   · exact h0
   · have := Nat.le_mul_of_pos_right (1000000000 ^ n) h0
     omega
 rw [vs_range]
 rw [h0] at h
 exact ⟨by omega, h0⟩
theorem upd_all (Y : List Nat) (n : Nat) (F : Nat → Nat) (hn : Y.length = n) : upd Y 0 n F = (List.range n).map F := by
 simp [upd, List.drop_of_length_le (show Y.length ≤ n by omega)]
theorem val_pad (ds : List Nat) (k : Nat) : val (ds ++ List.replicate k 0) = val ds := by rw [val_append, val_zeros]; simp
theorem digs_pad {ds : List Nat} (h : Digs ds) (k : Nat) : Digs (ds ++ List.replicate k 0) := h.app (digs_replicate k)
def addN (xs ys : List Int) : List Nat := if okI xs = true ∧ okI ys = true then capd (val (toN xs) + val (toN ys)) else []
theorem addN_yes {xs ys : List Int} (h1 : okI xs = true) (h2 : okI ys = true) : addN xs ys = capd (val (toN xs) + val (toN ys)) := by rw [addN, if_pos ⟨h1, h2⟩]
theorem addN_no {xs ys : List Int} (h : okI xs = false ∨ okI ys = false) : addN xs ys = [] := by rw [addN, if_neg (by rintro ⟨h1, h2⟩; rcases h with h | h <;> simp_all)]
theorem OwnV.nil_cap {w : World} {base : Nat} {e : TypeId} {A : Option Addr} {n c : Nat} {xs : List Value} (h : OwnV w base e (.slice A n c) xs) : A = none → c = 0 := by
 rintro rfl
 rcases h with ⟨hv, _⟩ | ⟨g, c', ys, hv, _⟩
 · simp at hv; exact hv.2
 · simp at hv
theorem l02Trim_own (base : Nat) (A : Option Addr) (n c : Nat) (ds : List Nat) (w : World) (h : OwnV w base 3 (.slice A n c) (nats ds)) (hd : Digs ds) :
   Calls Tryz.prog 126 #[.slice A n c] w fun e w' => e = .returned (.slice A (dig (val ds)).length c) ∧ OwnV w base 3 (.slice A (dig (val ds)).length c) (nats (dig (val ds))) ∧ w' = w := by
 have hl := h.len
 rw [nats_len] at hl
 have hk := dig_le_len hd
 have hc := h.cut (m := (dig (val ds)).length) (c2 := c) (by omega) (by have := h.cap.1; omega) (Nat.le_refl _)
 rw [nats_take, take_dig hd] at hc
 exact (l02Trim_any A n c ds w h.row hd h.cap.1 h.cap.2 h.nil_cap).mono fun e w' ⟨h1, h2⟩ => ⟨h1, hc, h2⟩
set_option maxRecDepth 100000 in
set_option maxHeartbeats 2000000 in
theorem l02Add_any (A B : Option Addr) (n c m d : Nat) (ds es : List Nat) (w : World) (hA : VRow w A n (nats ds)) (hB : VRow w B m (nats es)) (hds : Digs ds) (hes : Digs es) (hn : n ≤ 1048576) (hm : m ≤ 1048576) :
   Calls Tryz.prog 123 #[.slice A n c, .slice B m d] w fun e w' => ∃ rs : List Nat, Digs rs ∧ val rs = val ds + val es ∧ OwnR 3 (nats rs) w e w' := by
 obtain ⟨i0, hi, hz0, hz1, hz2⟩ := info_parts info_int
 have HL := Lib.hid (show ds.length = n by simpa [nats_len] using hA.1)
 have HM := Lib.hid (show es.length = m by simpa [nats_len] using hB.1)
 have HA := Lib.hid hA
 have HBB := Lib.hid hB
 have HD := Lib.hid hds
 have HE := Lib.hid hes
 clear hA hB hds hes
 go_enter Tryz.func123, Tryz.ntmps123
 go_wp2
 go_loopw [5, 6, 7] (fun v cr i wr => ∃ k : Nat, (k ≤ n ∨ k ≤ m ∨ (k ≤ max n m + 1)) ∧ i = .int .i64 k ∧ cr = .int .i64 (car ds es 1 k : Nat) ∧ (k = max n m + 1 → car ds es 1 k = 0) ∧ wr.ownsRow w.heap.size 3 1 v k (nats ((List.range k).map (sumAt ds es 1))) ∧ Below w.heap.size w wr) (fun _ cr i _ => 2 * (max n m - (intOf i).toNat) + (intOf cr).toNat)
 case atStart => exact ⟨0, by omega, rfl, rfl, fun h => absurd h (by omega), World.ownsRow_made w #[] 0 (Nat.le_refl _) (Nat.zero_le _) rfl, (Below.refl _ _).alloc (Nat.le_refl _) _⟩
 case round =>
   obtain ⟨k, hk, rfl, rfl, hlast, ho, hb⟩ := hrel
   have HO := Lib.hid ho
   have HB := Lib.hid hb
   clear ho hb
   have hcb := car_one ds es k HD.out HE.out
   have hcb2 := car_one ds es (k + 1) HD.out HE.out
   have hsum : sumAt ds es 1 k = (ds.getD k 0 + car ds es 1 k + es.getD k 0 * 1) % 1000000000 := rfl
   have hcar : car ds es 1 (k + 1) = (ds.getD k 0 + car ds es 1 k + es.getD k 0 * 1) / 1000000000 := rfl
   have hfin : ¬ k < n → ¬ k < m → car ds es 1 (k + 1) = 0 := by
     intro h1 h2
     have e1 : ds.getD k 0 = 0 := by have := HL.out; simp [List.getElem?_eq_none (show ds.length ≤ k by omega)]
     have e2 : es.getD k 0 = 0 := by have := HM.out; simp [List.getElem?_eq_none (show es.length ≤ k by omega)]
     rw [hcar, e1, e2]
     omega
   have HC1 := Lib.hid (show k + 1 = max n m + 1 → car ds es 1 (k + 1) = 0 from fun h => hfin (by omega) (by omega))
   have HFIN := Lib.hid hfin
   have HC1Z := Lib.hid hcb2
   have HLAST := Lib.hid hlast
   clear hfin hcb2 hlast
   obtain ⟨cr, hcr⟩ : ∃ cr, car ds es 1 k = cr := ⟨_, rfl⟩
   rw [hcr] at hcb hsum hcar HLAST ⊢
   have HCR := Lib.hid hcr
   clear hcr
   by_cases h1 : k < n
   · by_cases h2 : k < m
     · obtain ⟨ga, oa, rfl, hga, hca⟩ := (HA.out.below HB.out (Nat.le_refl _)).at_ h1
       rw [nats_get] at hca
       have hxl : k < ds.length := by have := HL.out; omega
       obtain ⟨x, hx⟩ : ∃ x, ds[k] = x := ⟨_, rfl⟩
       have hxb : x < 1000000000 := hx ▸ HD.out.get hxl
       have hgdx : ds.getD k 0 = x := by rw [← hx]; simp [hxl]
       rw [hx] at hca
       rw [hgdx] at hsum hcar
       clear hx hgdx
       obtain ⟨gb, ob, rfl, hgb, hcb⟩ := (HBB.out.below HB.out (Nat.le_refl _)).at_ h2
       rw [nats_get] at hcb
       have hyl : k < es.length := by have := HM.out; omega
       obtain ⟨y, hy⟩ : ∃ x, es[k] = x := ⟨_, rfl⟩
       have hyb : y < 1000000000 := hy ▸ HE.out.get hyl
       have hgdy : es.getD k 0 = y := by rw [← hy]; simp [hyl]
       rw [hy] at hcb
       rw [hgdy] at hsum hcar
       clear hy hgdy
       have HSUM := Lib.hid hsum
       have HCAR := Lib.hid hcar
       clear hsum hcar
       have h1z : (k : Int) < (n : Int) := by omega
       have h2z : (k : Int) < (m : Int) := by omega
       have HK2 := Lib.hid (show k + 1 ≤ n ∨ k + 1 ≤ m ∨ k + 1 ≤ max n m + 1 by have := HLAST.out; omega)
       have HCELL := Lib.hid (cell_new wr (.int .i64 (((cr : Int) + x + y) % 1000000000)) 3)
       go_wp2_with (at_builtin; refine wpList_append_own _ rfl (.tmp 47) (.tmp 50) 33 rfl w.heap.size 3 i0 _ 1 8 Tryz.underlying33 hi hz0 hz1 hz2 rfl (by decide) u5 k (nats ((List.range k).map (sumAt ds es 1))) rfl (HO.out.alloc _) ⟨wr.heap.size, 0, none⟩ 1 1 [.int .i64 (((cr : Int) + x + y) % 1000000000)] rfl rfl HCELL.out (by simp [Value.oneCell']) (by unfold maxLen; omega) (by omega) (by have := HB.out.size; simp; omega) ?_; intro v' w4 hown' hgrow _)
       have HW := Lib.hid hown'
       have HG := Lib.hid hgrow
       clear hown' hgrow
       have e1 : ((cr : Int) + x + y) % 1000000000 = ((sumAt ds es 1 k : Nat) : Int) := by rw [HSUM.out]; omega
       have e2 : ((cr : Int) + x + y) / 1000000000 = ((car ds es 1 (k + 1) : Nat) : Int) := by rw [HCAR.out]; omega
       have HE1 := Lib.hid e1
       have HE2 := Lib.hid e2
       clear e1 e2
       go_wp2
       refine ⟨⟨k + 1, HK2.out, by go_num, by rw [← HE2.out], HC1.out, ?_, ?_⟩, by have := HC1.out; have := HC1Z.out; simp [intOf]; omega⟩
       · have h := HW.out
         rw [HE1.out] at h
         have e3 : nats ((List.range (k + 1)).map (sumAt ds es 1)) = nats ((List.range k).map (sumAt ds es 1)) ++ [.int .i64 ((sumAt ds es 1 k : Nat) : Int)] := by rw [List.range_succ, List.map_append, nats_app]; rfl
         rw [e3]
         exact h
       · exact (HB.out.alloc HB.out.size _).grown HG.out (by have := HB.out.size; simp; omega) (fun j hj => (HO.out.lt j hj).1)
     · obtain ⟨ga, oa, rfl, hga, hca⟩ := (HA.out.below HB.out (Nat.le_refl _)).at_ h1
       rw [nats_get] at hca
       have hxl : k < ds.length := by have := HL.out; omega
       obtain ⟨x, hx⟩ : ∃ x, ds[k] = x := ⟨_, rfl⟩
       have hxb : x < 1000000000 := hx ▸ HD.out.get hxl
       have hgdx : ds.getD k 0 = x := by rw [← hx]; simp [hxl]
       rw [hx] at hca
       rw [hgdx] at hsum hcar
       clear hx hgdx
       have hgdy : es.getD k 0 = 0 := by
         have := HM.out
         simp [List.getElem?_eq_none (show es.length ≤ k by omega)]
       rw [hgdy] at hsum hcar
       clear hgdy
       have HSUM := Lib.hid hsum
       have HCAR := Lib.hid hcar
       clear hsum hcar
       have h1z : (k : Int) < (n : Int) := by omega
       have h2z : ¬ (k : Int) < (m : Int) := by omega
       have HK2 := Lib.hid (show k + 1 ≤ n ∨ k + 1 ≤ m ∨ k + 1 ≤ max n m + 1 by have := HLAST.out; omega)
       have HCELL := Lib.hid (cell_new wr (.int .i64 (((cr : Int) + x) % 1000000000)) 3)
       go_wp2_with (at_builtin; refine wpList_append_own _ rfl (.tmp 47) (.tmp 50) 33 rfl w.heap.size 3 i0 _ 1 8 Tryz.underlying33 hi hz0 hz1 hz2 rfl (by decide) u5 k (nats ((List.range k).map (sumAt ds es 1))) rfl (HO.out.alloc _) ⟨wr.heap.size, 0, none⟩ 1 1 [.int .i64 (((cr : Int) + x) % 1000000000)] rfl rfl HCELL.out (by simp [Value.oneCell']) (by unfold maxLen; omega) (by omega) (by have := HB.out.size; simp; omega) ?_; intro v' w4 hown' hgrow _)
       have HW := Lib.hid hown'
       have HG := Lib.hid hgrow
       clear hown' hgrow
       have e1 : ((cr : Int) + x) % 1000000000 = ((sumAt ds es 1 k : Nat) : Int) := by rw [HSUM.out]; omega
       have e2 : ((cr : Int) + x) / 1000000000 = ((car ds es 1 (k + 1) : Nat) : Int) := by rw [HCAR.out]; omega
       have HE1 := Lib.hid e1
       have HE2 := Lib.hid e2
       clear e1 e2
       go_wp2
       refine ⟨⟨k + 1, HK2.out, by go_num, by rw [← HE2.out], HC1.out, ?_, ?_⟩, by have := HC1.out; have := HC1Z.out; simp [intOf]; omega⟩
       · have h := HW.out
         rw [HE1.out] at h
         have e3 : nats ((List.range (k + 1)).map (sumAt ds es 1)) = nats ((List.range k).map (sumAt ds es 1)) ++ [.int .i64 ((sumAt ds es 1 k : Nat) : Int)] := by rw [List.range_succ, List.map_append, nats_app]; rfl
         rw [e3]
         exact h
       · exact (HB.out.alloc HB.out.size _).grown HG.out (by have := HB.out.size; simp; omega) (fun j hj => (HO.out.lt j hj).1)
   · by_cases h2 : k < m
     · have hgdx : ds.getD k 0 = 0 := by
         have := HL.out
         simp [List.getElem?_eq_none (show ds.length ≤ k by omega)]
       rw [hgdx] at hsum hcar
       clear hgdx
       obtain ⟨gb, ob, rfl, hgb, hcb⟩ := (HBB.out.below HB.out (Nat.le_refl _)).at_ h2
       rw [nats_get] at hcb
       have hyl : k < es.length := by have := HM.out; omega
       obtain ⟨y, hy⟩ : ∃ x, es[k] = x := ⟨_, rfl⟩
       have hyb : y < 1000000000 := hy ▸ HE.out.get hyl
       have hgdy : es.getD k 0 = y := by rw [← hy]; simp [hyl]
       rw [hy] at hcb
       rw [hgdy] at hsum hcar
       clear hy hgdy
       have HSUM := Lib.hid hsum
       have HCAR := Lib.hid hcar
       clear hsum hcar
       have h1z : ¬ (k : Int) < (n : Int) := by omega
       have h2z : (k : Int) < (m : Int) := by omega
       have HK2 := Lib.hid (show k + 1 ≤ n ∨ k + 1 ≤ m ∨ k + 1 ≤ max n m + 1 by have := HLAST.out; omega)
       have HCELL := Lib.hid (cell_new wr (.int .i64 (((cr : Int) + y) % 1000000000)) 3)
       go_wp2_with (at_builtin; refine wpList_append_own _ rfl (.tmp 47) (.tmp 50) 33 rfl w.heap.size 3 i0 _ 1 8 Tryz.underlying33 hi hz0 hz1 hz2 rfl (by decide) u5 k (nats ((List.range k).map (sumAt ds es 1))) rfl (HO.out.alloc _) ⟨wr.heap.size, 0, none⟩ 1 1 [.int .i64 (((cr : Int) + y) % 1000000000)] rfl rfl HCELL.out (by simp [Value.oneCell']) (by unfold maxLen; omega) (by omega) (by have := HB.out.size; simp; omega) ?_; intro v' w4 hown' hgrow _)
       have HW := Lib.hid hown'
       have HG := Lib.hid hgrow
       clear hown' hgrow
       have e1 : ((cr : Int) + y) % 1000000000 = ((sumAt ds es 1 k : Nat) : Int) := by rw [HSUM.out]; omega
       have e2 : ((cr : Int) + y) / 1000000000 = ((car ds es 1 (k + 1) : Nat) : Int) := by rw [HCAR.out]; omega
       have HE1 := Lib.hid e1
       have HE2 := Lib.hid e2
       clear e1 e2
       go_wp2
       refine ⟨⟨k + 1, HK2.out, by go_num, by rw [← HE2.out], HC1.out, ?_, ?_⟩, by have := HC1.out; have := HC1Z.out; simp [intOf]; omega⟩
       · have h := HW.out
         rw [HE1.out] at h
         have e3 : nats ((List.range (k + 1)).map (sumAt ds es 1)) = nats ((List.range k).map (sumAt ds es 1)) ++ [.int .i64 ((sumAt ds es 1 k : Nat) : Int)] := by rw [List.range_succ, List.map_append, nats_app]; rfl
         rw [e3]
         exact h
       · exact (HB.out.alloc HB.out.size _).grown HG.out (by have := HB.out.size; simp; omega) (fun j hj => (HO.out.lt j hj).1)
     · by_cases h3 : 0 < cr
       · have hgdx : ds.getD k 0 = 0 := by
           have := HL.out
           simp [List.getElem?_eq_none (show ds.length ≤ k by omega)]
         rw [hgdx] at hsum hcar
         clear hgdx
         have hgdy : es.getD k 0 = 0 := by
           have := HM.out
           simp [List.getElem?_eq_none (show es.length ≤ k by omega)]
         rw [hgdy] at hsum hcar
         clear hgdy
         have HSUM := Lib.hid hsum
         have HCAR := Lib.hid hcar
         clear hsum hcar
         have h1z : ¬ (k : Int) < (n : Int) := by omega
         have h2z : ¬ (k : Int) < (m : Int) := by omega
         have HK2 := Lib.hid (show k + 1 ≤ n ∨ k + 1 ≤ m ∨ k + 1 ≤ max n m + 1 by have := HLAST.out; omega)
         have HCELL := Lib.hid (cell_new wr (.int .i64 (((cr : Int)) % 1000000000)) 3)
         go_wp2_with (at_builtin; refine wpList_append_own _ rfl (.tmp 47) (.tmp 50) 33 rfl w.heap.size 3 i0 _ 1 8 Tryz.underlying33 hi hz0 hz1 hz2 rfl (by decide) u5 k (nats ((List.range k).map (sumAt ds es 1))) rfl (HO.out.alloc _) ⟨wr.heap.size, 0, none⟩ 1 1 [.int .i64 (((cr : Int)) % 1000000000)] rfl rfl HCELL.out (by simp [Value.oneCell']) (by unfold maxLen; omega) (by omega) (by have := HB.out.size; simp; omega) ?_; intro v' w4 hown' hgrow _)
         have HW := Lib.hid hown'
         have HG := Lib.hid hgrow
         clear hown' hgrow
         have e1 : ((cr : Int)) % 1000000000 = ((sumAt ds es 1 k : Nat) : Int) := by rw [HSUM.out]; omega
         have e2 : ((cr : Int)) / 1000000000 = ((car ds es 1 (k + 1) : Nat) : Int) := by rw [HCAR.out]; omega
         have HE1 := Lib.hid e1
         have HE2 := Lib.hid e2
         clear e1 e2
         go_wp2
         refine ⟨⟨k + 1, HK2.out, by go_num, by rw [← HE2.out], HC1.out, ?_, ?_⟩, by have := HC1.out; have := HC1Z.out; simp [intOf]; omega⟩
         · have h := HW.out
           rw [HE1.out] at h
           have e3 : nats ((List.range (k + 1)).map (sumAt ds es 1)) = nats ((List.range k).map (sumAt ds es 1)) ++ [.int .i64 ((sumAt ds es 1 k : Nat) : Int)] := by rw [List.range_succ, List.map_append, nats_app]; rfl
           rw [e3]
           exact h
         · exact (HB.out.alloc HB.out.size _).grown HG.out (by have := HB.out.size; simp; omega) (fun j hj => (HO.out.lt j hj).1)
       · obtain rfl : cr = 0 := by omega
         clear hsum hcar
         have h1z : ¬ (k : Int) < (n : Int) := by omega
         have h2z : ¬ (k : Int) < (m : Int) := by omega
         go_wp2
         go_ret
         refine ⟨(List.range k).map (sumAt ds es 1), sumAt_digs _ _ _ _, ?_, _, rfl, OwnV.of_own HO.out, HB.out⟩
         have h := car_sum ds es 1 k
         have := HL.out
         have := HM.out
         rw [HCR.out, List.take_of_length_le (by omega), List.take_of_length_le (by omega)] at h
         rw [vs_range]
         omega
set_option maxRecDepth 100000 in
set_option maxHeartbeats 2000000 in
theorem natAdd_impl (A B : Option Addr) (n c m d : Nat) (xs ys : List Int) (w : World) (hA : VRow w A n (ints xs)) (hB : VRow w B m (ints ys)) (hn : n ≤ maxLen) (hm : m ≤ maxLen) :
   Calls Tryz.prog 130 #[.slice A n c, .slice B m d] w (OwnR 3 (nats (addN xs ys)) w) := by
 have HA := Lib.hid hA
 have HB := Lib.hid hB
 clear hA hB
 cases hx : okI xs with
 | false =>
   have HEQ := Lib.hid (addN_no (xs := xs) (ys := ys) (.inl hx))
   go_enter Tryz.func130, Tryz.ntmps130
   go_wp2_with fail
   refine (natOk_impl _ _ _ xs _ HA.out hn).mono ?_
   rintro e w1 ⟨rfl, hb⟩
   rw [hx]
   have HB1 := Lib.hid hb
   clear hb
   go_wp2
   go_ret
   rw [HEQ.out]
   exact ⟨_, rfl, OwnV.nil _ _ _, HB1.out⟩
 | true =>
   obtain ⟨hxn, hxc, hxl⟩ := okI_nats hx
   go_enter Tryz.func130, Tryz.ntmps130
   go_wp2_with fail
   refine (natOk_impl _ _ _ xs _ HA.out hn).mono ?_
   rintro e w1 ⟨rfl, hb⟩
   rw [hx]
   have HB1 := Lib.hid hb
   clear hb
   go_wp2_with fail
   refine (natOk_impl _ _ _ ys _ (HB.out.below HB1.out (Nat.le_refl _)) hm).mono ?_
   rintro e w2 ⟨rfl, hb⟩
   have HB2 := Lib.hid (HB1.out.trans (hb.mono HB1.out.size))
   clear hb
   cases hy : okI ys with
   | false =>
     have HEQ := Lib.hid (addN_no (xs := xs) (ys := ys) (.inr hy))
     go_wp2
     go_ret
     rw [HEQ.out]
     exact ⟨_, rfl, OwnV.nil _ _ _, HB2.out⟩
   | true =>
     obtain ⟨hyn, hyc, hyl⟩ := okI_nats hy
     have hA2 := HA.out.below HB2.out (Nat.le_refl _)
     have hBB2 := HB.out.below HB2.out (Nat.le_refl _)
     rw [hxn] at hA2
     rw [hyn] at hBB2
     have HEQ := Lib.hid (addN_yes hx hy)
     clear hxn hyn hx hy HA HB HB1
     generalize toN xs = ds at *
     generalize toN ys = es at *
     have HL := Lib.hid (show ds.length = n by simpa [nats_len] using hA2.1)
     have HM := Lib.hid (show es.length = m by simpa [nats_len] using hBB2.1)
     have hn60 : n ≤ 60 := by have := HL.out; omega
     have hm60 : m ≤ 60 := by have := HM.out; omega
     have HX := Lib.hid hxc
     have HY := Lib.hid hyc
     have HA2 := Lib.hid hA2
     have HBB2 := Lib.hid hBB2
     clear hxc hyc hA2 hBB2 hn hm hxl hyl
     by_cases hnm : n < m
     · go_wp2_with fail
       refine (rowOf_any _ n c (m + 1) _ (by first | rfl | omega) ds _ HA2.out (by omega) (by omega)).mono ?_
       rintro e w3 ⟨rfl, hw3, hb3⟩
       obtain ⟨Y, hY⟩ : ∃ Y, Y = ds ++ List.replicate (m + 1 - n) 0 := ⟨_, rfl⟩
       rw [← hY] at hw3
       have hYl : Y.length = m + 1 := by rw [hY, List.length_append, List.length_replicate, HL.out]; omega
       have hYv : val Y = val ds := by rw [hY, val_pad]
       have hYd : Digs Y := by rw [hY]; exact digs_pad HX.out.1 _
       obtain ⟨r, hr⟩ : ∃ r, m + 1 = r := ⟨_, rfl⟩
       have hrn : n < r ∧ m < r ∧ r ≤ 61 := by omega
       rw [hr] at hYl ⊢
       have HYL := Lib.hid hYl
       have HYV := Lib.hid hYv
       have HYD := Lib.hid hYd
       have HW3 := Lib.hid hw3
       have HB3 := Lib.hid (HB2.out.trans (hb3.mono HB2.out.size))
       have HBB3 := Lib.hid (HBB2.out.below hb3 (Nat.le_refl _))
       have HOFF := Lib.hid (HBB2.out.off (Nat.le_refl _))
       have HSZ := Lib.hid hb3.size
       clear hw3 hb3 hY hYl hYv hYd hr
       go_wp2_with fail
       refine (addTimes_any _ _ r r _ Y _ m d es 1 _ (by first | rfl | omega) _ HW3.out (by rw [HYL.out]; omega) HYD.out HBB3.out HOFF.out HY.out.1 (by omega) (by omega) (by omega)).mono ?_
       rintro e w4 ⟨rfl, hw4, hg4⟩
       rw [List.drop_zero, List.take_of_length_le (by rw [HYL.out]; exact Nat.le_refl _), upd_all _ _ _ HYL.out] at hw4
       have HW4 := Lib.hid hw4
       have HB4 := Lib.hid (HB3.out.grown hg4 HB3.out.size (fun k hk => by have := HW3.out.lt.1; have := HB2.out.size; simp at hk; omega))
       clear hw4 hg4
       go_wp2_with fail
       refine (natOrNil_any _ r _ _ (by simp) _ HW4.out (sumAt_digs _ _ _ _) (by omega)).mono ?_
       rintro e w5 ⟨⟨v, rfl, ho, _⟩, rfl⟩
       have HO := Lib.hid ho
       clear ho
       go_wp2
       go_ret
       refine ⟨_, rfl, ?_, HB4.out⟩
       have h1 : val ds < 1000000000 ^ (r - 1) := Nat.lt_of_lt_of_le (val_lt HX.out.1) (Nat.pow_le_pow_right (by decide) (by have := HL.out; omega))
       have h2 : val es < 1000000000 ^ (r - 1) := Nat.lt_of_lt_of_le (val_lt HY.out.1) (Nat.pow_le_pow_right (by decide) (by have := HM.out; omega))
       have h3 : 1000000000 ^ r = 1000000000 ^ (r - 1) * 1000000000 := by rw [← Nat.pow_succ]; congr 1; omega
       have hv := (add_val Y es 1 r HYL.out (by have := HM.out; omega) (by rw [HYV.out, h3]; omega)).1
       rw [HYV.out, Nat.one_mul] at hv
       rw [HEQ.out, ← hv]
       exact HO.out.based HB2.out.size
     · go_wp2_with fail
       refine (rowOf_any _ n c (n + 1) _ (by first | rfl | omega) ds _ HA2.out (by omega) (by omega)).mono ?_
       rintro e w3 ⟨rfl, hw3, hb3⟩
       obtain ⟨Y, hY⟩ : ∃ Y, Y = ds ++ List.replicate (n + 1 - n) 0 := ⟨_, rfl⟩
       rw [← hY] at hw3
       have hYl : Y.length = n + 1 := by rw [hY, List.length_append, List.length_replicate, HL.out]; omega
       have hYv : val Y = val ds := by rw [hY, val_pad]
       have hYd : Digs Y := by rw [hY]; exact digs_pad HX.out.1 _
       obtain ⟨r, hr⟩ : ∃ r, n + 1 = r := ⟨_, rfl⟩
       have hrn : n < r ∧ m < r ∧ r ≤ 61 := by omega
       rw [hr] at hYl ⊢
       have HYL := Lib.hid hYl
       have HYV := Lib.hid hYv
       have HYD := Lib.hid hYd
       have HW3 := Lib.hid hw3
       have HB3 := Lib.hid (HB2.out.trans (hb3.mono HB2.out.size))
       have HBB3 := Lib.hid (HBB2.out.below hb3 (Nat.le_refl _))
       have HOFF := Lib.hid (HBB2.out.off (Nat.le_refl _))
       have HSZ := Lib.hid hb3.size
       clear hw3 hb3 hY hYl hYv hYd hr
       go_wp2_with fail
       refine (addTimes_any _ _ r r _ Y _ m d es 1 _ (by first | rfl | omega) _ HW3.out (by rw [HYL.out]; omega) HYD.out HBB3.out HOFF.out HY.out.1 (by omega) (by omega) (by omega)).mono ?_
       rintro e w4 ⟨rfl, hw4, hg4⟩
       rw [List.drop_zero, List.take_of_length_le (by rw [HYL.out]; exact Nat.le_refl _), upd_all _ _ _ HYL.out] at hw4
       have HW4 := Lib.hid hw4
       have HB4 := Lib.hid (HB3.out.grown hg4 HB3.out.size (fun k hk => by have := HW3.out.lt.1; have := HB2.out.size; simp at hk; omega))
       clear hw4 hg4
       go_wp2_with fail
       refine (natOrNil_any _ r _ _ (by simp) _ HW4.out (sumAt_digs _ _ _ _) (by omega)).mono ?_
       rintro e w5 ⟨⟨v, rfl, ho, _⟩, rfl⟩
       have HO := Lib.hid ho
       clear ho
       go_wp2
       go_ret
       refine ⟨_, rfl, ?_, HB4.out⟩
       have h1 : val ds < 1000000000 ^ (r - 1) := Nat.lt_of_lt_of_le (val_lt HX.out.1) (Nat.pow_le_pow_right (by decide) (by have := HL.out; omega))
       have h2 : val es < 1000000000 ^ (r - 1) := Nat.lt_of_lt_of_le (val_lt HY.out.1) (Nat.pow_le_pow_right (by decide) (by have := HM.out; omega))
       have h3 : 1000000000 ^ r = 1000000000 ^ (r - 1) * 1000000000 := by rw [← Nat.pow_succ]; congr 1; omega
       have hv := (add_val Y es 1 r HYL.out (by have := HM.out; omega) (by rw [HYV.out, h3]; omega)).1
       rw [HYV.out, Nat.one_mul] at hv
       rw [HEQ.out, ← hv]
       exact HO.out.based HB2.out.size
end Go.Proofs.YtaboodioabopnaaGreat
namespace Go.Proofs.YtaboodioabopnaaGreat
open Go.RowKit Nt
set_option linter.unusedVariables false
theorem bor_one (y b : List Nat) (k : Nat) (hy : Digs y) (hb : Digs b) : bor y b 1 k ≤ 1 := by
 induction k with
 | zero => simp [bor]
 | succ k ih =>
   have h2 := hb.getD k
   have h1 := hy.getD k
   simp only [bor]
   split <;> omega
theorem dif_one (y b : List Nat) (k : Nat) (hy : Digs y) (hb : Digs b) : (y.getD k 0 < bor y b 1 k + b.getD k 0 → difAt y b 1 k = y.getD k 0 + 1000000000 - (bor y b 1 k + b.getD k 0) ∧ bor y b 1 (k + 1) = 1) ∧ (¬ y.getD k 0 < bor y b 1 k + b.getD k 0 → difAt y b 1 k = y.getD k 0 - (bor y b 1 k + b.getD k 0) ∧ bor y b 1 (k + 1) = 0) := by
 have h0 := bor_one y b k hy hb
 have h2 := hb.getD k
 have h1 := hy.getD k
 simp only [bor, difAt, Nat.mul_one]
 generalize y.getD k 0 = u at *
 generalize b.getD k 0 = v at *
 generalize bor y b 1 k = s at *
 constructor
 · intro h
   by_cases h3 : s + v = 1000000000
   · rw [h3]; constructor <;> simp
   · have e : (s + v) % 1000000000 = s + v := Nat.mod_eq_of_lt (by omega)
     have e2 : (s + v) / 1000000000 = 0 := Nat.div_eq_of_lt (by omega)
     rw [e, e2, if_pos h, if_pos h]; omega
 · intro h
   have e : (s + v) % 1000000000 = s + v := Nat.mod_eq_of_lt (by omega)
   have e2 : (s + v) / 1000000000 = 0 := Nat.div_eq_of_lt (by omega)
   rw [e, e2, if_neg h, if_neg h]; omega
theorem sub_val (Y bs : List Nat) (f n : Nat) (hY : Digs Y) (hn : Y.length = n) (hb : bs.length ≤ n) (hle : f * val bs ≤ val Y) : val ((List.range n).map (difAt Y bs f)) = val Y - f * val bs ∧ bor Y bs f n = 0 := by
 have h := bor_sum Y bs f n
 rw [List.take_of_length_le hb, List.take_of_length_le (show Y.length ≤ n by omega)] at h
 have hlt := val_lt (difAt_digs Y bs f n hY)
 rw [List.length_map, List.length_range, vs_range] at hlt
 have h0 : bor Y bs f n = 0 := by
   rcases Nat.eq_zero_or_pos (bor Y bs f n) with h0 | h0
   · exact h0
   · have := Nat.le_mul_of_pos_right (1000000000 ^ n) h0
     omega
 rw [vs_range]
 rw [h0] at h
 exact ⟨by omega, h0⟩
theorem canon_len {a b : List Nat} (ha : Canon a) (hb : Digs b) (h : val a ≤ val b) : a.length ≤ b.length := by
 rcases Nat.lt_or_ge b.length a.length with h1 | h1
 · have := val_lt_len hb ha h1; omega
 · exact h1
def subN (xs ys : List Int) : List Nat := if okI xs = true ∧ okI ys = true then dig (val (toN xs) - val (toN ys)) else []
theorem subN_yes {xs ys : List Int} (h1 : okI xs = true) (h2 : okI ys = true) : subN xs ys = dig (val (toN xs) - val (toN ys)) := by rw [subN, if_pos ⟨h1, h2⟩]
theorem subN_no {xs ys : List Int} (h : okI xs = false ∨ okI ys = false) : subN xs ys = [] := by rw [subN, if_neg (by rintro ⟨h1, h2⟩; rcases h with h | h <;> simp_all)]
theorem cmpI_nats (ds es : List Nat) (h1 : Canon ds) (h2 : Canon es) (h3 : ds.length ≤ 60) (h4 : es.length ≤ 60) : cmpI (ds.map fun d : Nat => (d : Int)) (es.map fun d : Nat => (d : Int)) = sgn (val ds) (val es) := by
 rw [cmpI, if_pos ⟨okI_of_nats h1 h3, okI_of_nats h2 h4⟩, toN_nats, toN_nats]
set_option maxRecDepth 100000 in
set_option maxHeartbeats 2000000 in
theorem l02Sub_any (A B : Option Addr) (n c m d : Nat) (ds es : List Nat) (w : World) (hA : VRow w A n (nats ds)) (hB : VRow w B m (nats es)) (hds : Digs ds) (hes : Digs es) (hmn : m ≤ n) (hle : val es ≤ val ds) (hn : n ≤ 1048576) :
   Calls Tryz.prog 125 #[.slice A n c, .slice B m d] w (OwnR 3 (nats (dig (val ds - val es))) w) := by
 obtain ⟨i0, hi, hz0, hz1, hz2⟩ := info_parts info_int
 have HL := Lib.hid (show ds.length = n by simpa [nats_len] using hA.1)
 have HM := Lib.hid (show es.length = m by simpa [nats_len] using hB.1)
 have HA := Lib.hid hA
 have HBB := Lib.hid hB
 have HD := Lib.hid hds
 have HE := Lib.hid hes
 have HLE := Lib.hid hle
 clear hA hB hds hes hle
 go_enter Tryz.func125, Tryz.ntmps125
 go_wp2
 go_loopw [5, 6, 12] (fun v cr i wr => ∃ k : Nat, k ≤ n ∧ i = .int .i64 k ∧ cr = .int .i64 (bor ds es 1 k : Nat) ∧ wr.ownsRow w.heap.size 3 1 v k (nats ((List.range k).map (difAt ds es 1))) ∧ Below w.heap.size w wr) (fun _ _ i _ => n - (intOf i).toNat)
 case atStart => exact ⟨0, by omega, rfl, rfl, World.ownsRow_made w #[] 0 (Nat.le_refl _) (Nat.zero_le _) rfl, (Below.refl _ _).alloc (Nat.le_refl _) _⟩
 case round =>
   obtain ⟨k, hk, rfl, rfl, ho, hb⟩ := hrel
   have HO := Lib.hid ho
   have HB := Lib.hid hb
   clear ho hb
   by_cases h1 : k < n
   · have hcb := bor_one ds es k HD.out HE.out
     have hdif := dif_one ds es k HD.out HE.out
     obtain ⟨ga, oa, rfl, hga, hca⟩ := (HA.out.below HB.out (Nat.le_refl _)).at_ h1
     rw [nats_get] at hca
     have hxl : k < ds.length := by have := HL.out; omega
     obtain ⟨x, hx⟩ : ∃ x, ds[k] = x := ⟨_, rfl⟩
     have hxb : x < 1000000000 := hx ▸ HD.out.get hxl
     have hgdx : ds.getD k 0 = x := by rw [← hx]; simp [hxl]
     rw [hx] at hca
     rw [hgdx] at hdif
     clear hx hgdx
     obtain ⟨cr, hcr⟩ : ∃ cr, bor ds es 1 k = cr := ⟨_, rfl⟩
     rw [hcr] at hcb hdif ⊢
     clear hcr
     have h1z : (k : Int) < (n : Int) := by omega
     by_cases h2 : k < m
     · obtain ⟨gb, ob, rfl, hgb, hcb⟩ := (HBB.out.below HB.out (Nat.le_refl _)).at_ h2
       rw [nats_get] at hcb
       have hyl : k < es.length := by have := HM.out; omega
       obtain ⟨y, hy⟩ : ∃ x, es[k] = x := ⟨_, rfl⟩
       have hyb : y < 1000000000 := hy ▸ HE.out.get hyl
       have hgdy : es.getD k 0 = y := by rw [← hy]; simp [hyl]
       rw [hy] at hcb
       rw [hgdy] at hdif
       clear hy hgdy
       have h2z : (k : Int) < (m : Int) := by omega
       by_cases hneg : x < cr + y
       · have HK := Lib.hid (hdif.1 hneg)
         clear hdif
         have hnz : (x : Int) - cr - y < 0 := by omega
         have HCELL := Lib.hid (cell_new wr (.int .i64 ((x : Int) - cr - y + 1000000000)) 3)
         go_wp2_with (at_builtin; refine wpList_append_own _ rfl (.tmp 35) (.tmp 37) 33 rfl w.heap.size 3 i0 _ 1 8 Tryz.underlying33 hi hz0 hz1 hz2 rfl (by decide) u5 k (nats ((List.range k).map (difAt ds es 1))) rfl (HO.out.alloc _) ⟨wr.heap.size, 0, none⟩ 1 1 [.int .i64 ((x : Int) - cr - y + 1000000000)] rfl rfl HCELL.out (by simp [Value.oneCell']) (by unfold maxLen; omega) (by omega) (by have := HB.out.size; simp; omega) ?_; intro v' w4 hown' hgrow _)
         have HW := Lib.hid hown'
         have HG := Lib.hid hgrow
         clear hown' hgrow
         have HE1 := Lib.hid (show (x : Int) - cr - y + 1000000000 = ((difAt ds es 1 k : Nat) : Int) by rw [HK.out.1]; omega)
         go_wp2
         refine ⟨⟨k + 1, by omega, by go_num, by rw [HK.out.2]; rfl, ?_, ?_⟩, by simp [intOf]; omega⟩
         · have h := HW.out
           rw [HE1.out] at h
           have e3 : nats ((List.range (k + 1)).map (difAt ds es 1)) = nats ((List.range k).map (difAt ds es 1)) ++ [.int .i64 ((difAt ds es 1 k : Nat) : Int)] := by rw [List.range_succ, List.map_append, nats_app]; rfl
           rw [e3]
           exact h
         · exact (HB.out.alloc HB.out.size _).grown HG.out (by have := HB.out.size; simp; omega) (fun j hj => (HO.out.lt j hj).1)
       · have HK := Lib.hid (hdif.2 hneg)
         clear hdif
         have hnz : ¬ ((x : Int) - cr - y < 0) := by omega
         have HCELL := Lib.hid (cell_new wr (.int .i64 ((x : Int) - cr - y)) 3)
         go_wp2_with (at_builtin; refine wpList_append_own _ rfl (.tmp 35) (.tmp 37) 33 rfl w.heap.size 3 i0 _ 1 8 Tryz.underlying33 hi hz0 hz1 hz2 rfl (by decide) u5 k (nats ((List.range k).map (difAt ds es 1))) rfl (HO.out.alloc _) ⟨wr.heap.size, 0, none⟩ 1 1 [.int .i64 ((x : Int) - cr - y)] rfl rfl HCELL.out (by simp [Value.oneCell']) (by unfold maxLen; omega) (by omega) (by have := HB.out.size; simp; omega) ?_; intro v' w4 hown' hgrow _)
         have HW := Lib.hid hown'
         have HG := Lib.hid hgrow
         clear hown' hgrow
         have HE1 := Lib.hid (show (x : Int) - cr - y = ((difAt ds es 1 k : Nat) : Int) by rw [HK.out.1]; omega)
         go_wp2
         refine ⟨⟨k + 1, by omega, by go_num, by rw [HK.out.2]; rfl, ?_, ?_⟩, by simp [intOf]; omega⟩
         · have h := HW.out
           rw [HE1.out] at h
           have e3 : nats ((List.range (k + 1)).map (difAt ds es 1)) = nats ((List.range k).map (difAt ds es 1)) ++ [.int .i64 ((difAt ds es 1 k : Nat) : Int)] := by rw [List.range_succ, List.map_append, nats_app]; rfl
           rw [e3]
           exact h
         · exact (HB.out.alloc HB.out.size _).grown HG.out (by have := HB.out.size; simp; omega) (fun j hj => (HO.out.lt j hj).1)
     · have hgdy : es.getD k 0 = 0 := by
         have := HM.out
         simp [List.getElem?_eq_none (show es.length ≤ k by omega)]
       rw [hgdy, Nat.add_zero] at hdif
       clear hgdy
       have h2z : ¬ (k : Int) < (m : Int) := by omega
       by_cases hneg : x < cr
       · have HK := Lib.hid (hdif.1 hneg)
         clear hdif
         have hnz : (x : Int) - cr < 0 := by omega
         have HCELL := Lib.hid (cell_new wr (.int .i64 ((x : Int) - cr + 1000000000)) 3)
         go_wp2_with (at_builtin; refine wpList_append_own _ rfl (.tmp 35) (.tmp 37) 33 rfl w.heap.size 3 i0 _ 1 8 Tryz.underlying33 hi hz0 hz1 hz2 rfl (by decide) u5 k (nats ((List.range k).map (difAt ds es 1))) rfl (HO.out.alloc _) ⟨wr.heap.size, 0, none⟩ 1 1 [.int .i64 ((x : Int) - cr + 1000000000)] rfl rfl HCELL.out (by simp [Value.oneCell']) (by unfold maxLen; omega) (by omega) (by have := HB.out.size; simp; omega) ?_; intro v' w4 hown' hgrow _)
         have HW := Lib.hid hown'
         have HG := Lib.hid hgrow
         clear hown' hgrow
         have HE1 := Lib.hid (show (x : Int) - cr + 1000000000 = ((difAt ds es 1 k : Nat) : Int) by rw [HK.out.1]; omega)
         go_wp2
         refine ⟨⟨k + 1, by omega, by go_num, by rw [HK.out.2]; rfl, ?_, ?_⟩, by simp [intOf]; omega⟩
         · have h := HW.out
           rw [HE1.out] at h
           have e3 : nats ((List.range (k + 1)).map (difAt ds es 1)) = nats ((List.range k).map (difAt ds es 1)) ++ [.int .i64 ((difAt ds es 1 k : Nat) : Int)] := by rw [List.range_succ, List.map_append, nats_app]; rfl
           rw [e3]
           exact h
         · exact (HB.out.alloc HB.out.size _).grown HG.out (by have := HB.out.size; simp; omega) (fun j hj => (HO.out.lt j hj).1)
       · have HK := Lib.hid (hdif.2 hneg)
         clear hdif
         have hnz : ¬ ((x : Int) - cr < 0) := by omega
         have HCELL := Lib.hid (cell_new wr (.int .i64 ((x : Int) - cr)) 3)
         go_wp2_with (at_builtin; refine wpList_append_own _ rfl (.tmp 35) (.tmp 37) 33 rfl w.heap.size 3 i0 _ 1 8 Tryz.underlying33 hi hz0 hz1 hz2 rfl (by decide) u5 k (nats ((List.range k).map (difAt ds es 1))) rfl (HO.out.alloc _) ⟨wr.heap.size, 0, none⟩ 1 1 [.int .i64 ((x : Int) - cr)] rfl rfl HCELL.out (by simp [Value.oneCell']) (by unfold maxLen; omega) (by omega) (by have := HB.out.size; simp; omega) ?_; intro v' w4 hown' hgrow _)
         have HW := Lib.hid hown'
         have HG := Lib.hid hgrow
         clear hown' hgrow
         have HE1 := Lib.hid (show (x : Int) - cr = ((difAt ds es 1 k : Nat) : Int) by rw [HK.out.1]; omega)
         go_wp2
         refine ⟨⟨k + 1, by omega, by go_num, by rw [HK.out.2]; rfl, ?_, ?_⟩, by simp [intOf]; omega⟩
         · have h := HW.out
           rw [HE1.out] at h
           have e3 : nats ((List.range (k + 1)).map (difAt ds es 1)) = nats ((List.range k).map (difAt ds es 1)) ++ [.int .i64 ((difAt ds es 1 k : Nat) : Int)] := by rw [List.range_succ, List.map_append, nats_app]; rfl
           rw [e3]
           exact h
         · exact (HB.out.alloc HB.out.size _).grown HG.out (by have := HB.out.size; simp; omega) (fun j hj => (HO.out.lt j hj).1)
   · obtain rfl : k = n := by omega
     obtain ⟨A9, c9, rfl⟩ := own_shape HO.out
     have HOV := Lib.hid (OwnV.of_own HO.out)
     go_wp2_with fail
     refine (l02Trim_own _ _ _ _ _ _ HOV.out (difAt_digs _ _ _ _ HD.out)).mono ?_
     rintro e w1 ⟨rfl, hov, rfl⟩
     have hv := (sub_val ds es 1 k HD.out HL.out (by have := HM.out; omega) (by have := HLE.out; omega)).1
     rw [hv, Nat.one_mul] at hov ⊢
     have HOV2 := Lib.hid hov
     clear hov hv
     go_wp2
     go_ret
     exact ⟨_, rfl, HOV2.out, HB.out⟩
set_option maxRecDepth 100000 in
set_option maxHeartbeats 2000000 in
theorem natSub_impl (A B : Option Addr) (n c m d : Nat) (xs ys : List Int) (w : World) (hA : VRow w A n (ints xs)) (hB : VRow w B m (ints ys)) (hn : n ≤ maxLen) (hm : m ≤ maxLen) :
   Calls Tryz.prog 141 #[.slice A n c, .slice B m d] w (OwnR 3 (nats (subN xs ys)) w) := by
 have HA := Lib.hid hA
 have HB := Lib.hid hB
 clear hA hB
 cases hx : okI xs with
 | false =>
   have HEQ := Lib.hid (subN_no (xs := xs) (ys := ys) (.inl hx))
   go_enter Tryz.func141, Tryz.ntmps141
   go_wp2_with fail
   refine (natOk_impl _ _ _ xs _ HA.out hn).mono ?_
   rintro e w1 ⟨rfl, hb⟩
   rw [hx]
   have HB1 := Lib.hid hb
   clear hb
   go_wp2
   go_ret
   rw [HEQ.out]
   exact ⟨_, rfl, OwnV.nil _ _ _, HB1.out⟩
 | true =>
   obtain ⟨hxn, hxc, hxl⟩ := okI_nats hx
   go_enter Tryz.func141, Tryz.ntmps141
   go_wp2_with fail
   refine (natOk_impl _ _ _ xs _ HA.out hn).mono ?_
   rintro e w1 ⟨rfl, hb⟩
   rw [hx]
   have HB1 := Lib.hid hb
   clear hb
   go_wp2_with fail
   refine (natOk_impl _ _ _ ys _ (HB.out.below HB1.out (Nat.le_refl _)) hm).mono ?_
   rintro e w2 ⟨rfl, hb⟩
   have HB2 := Lib.hid (HB1.out.trans (hb.mono HB1.out.size))
   clear hb
   cases hy : okI ys with
   | false =>
     have HEQ := Lib.hid (subN_no (xs := xs) (ys := ys) (.inr hy))
     go_wp2
     go_ret
     rw [HEQ.out]
     exact ⟨_, rfl, OwnV.nil _ _ _, HB2.out⟩
   | true =>
     obtain ⟨hyn, hyc, hyl⟩ := okI_nats hy
     have hA2 := HA.out.below HB2.out (Nat.le_refl _)
     have hBB2 := HB.out.below HB2.out (Nat.le_refl _)
     rw [hxn] at hA2
     rw [hyn] at hBB2
     have HEQ := Lib.hid (subN_yes hx hy)
     clear hxn hyn hx hy HA HB HB1
     generalize toN xs = ds at *
     generalize toN ys = es at *
     have HL := Lib.hid (show ds.length = n by simpa [nats_len] using hA2.1)
     have HM := Lib.hid (show es.length = m by simpa [nats_len] using hBB2.1)
     have hn60 : n ≤ 60 := by have := HL.out; omega
     have hm60 : m ≤ 60 := by have := HM.out; omega
     have HX := Lib.hid hxc
     have HY := Lib.hid hyc
     have HA2 := Lib.hid hA2
     have HBB2 := Lib.hid hBB2
     clear hxc hyc hA2 hBB2 hn hm hxl hyl
     go_wp2_with fail
     refine (natCmp_impl _ _ _ _ _ _ (ds.map fun d : Nat => (d : Int)) (es.map fun d : Nat => (d : Int)) _ HA2.out HBB2.out (by unfold maxLen; omega) (by unfold maxLen; omega)).mono ?_
     rintro e w3 ⟨rfl, hb3⟩
     rw [cmpI_nats ds es HX.out HY.out (by rw [HL.out]; omega) (by rw [HM.out]; omega)]
     have HA3 := Lib.hid (HA2.out.below hb3 (Nat.le_refl _))
     have HBB3 := Lib.hid (HBB2.out.below hb3 (Nat.le_refl _))
     have HB3 := Lib.hid (HB2.out.trans (hb3.mono HB2.out.size))
     clear hb3
     by_cases hlt : val ds < val es
     · have e : sgn (val ds) (val es) = -1 := sgn_lt hlt
       rw [e]
       have HZ := Lib.hid (show val ds - val es = 0 by omega)
       clear e hlt
       go_wp2
       go_ret
       refine ⟨_, rfl, ?_, HB3.out⟩
       rw [HEQ.out, HZ.out, dig_zero]
       exact OwnV.nil _ _ _
     have hs : ¬ sgn (val ds) (val es) < 0 := by
       by_cases h2 : val ds = val es
       · rw [sgn_eq h2]; decide
       · rw [sgn_gt (by omega)]; decide
     generalize sgn (val ds) (val es) = s at *
     have HLE := Lib.hid (show val es ≤ val ds by omega)
     clear hlt
     go_wp2_with fail
     refine (rowOf_any _ n c n _ (by first | rfl | omega) ds _ HA3.out (Nat.le_refl _) (by omega)).mono ?_
     rintro e w4 ⟨rfl, hw4, hb4⟩
     rw [Nat.sub_self, List.replicate_zero, List.append_nil] at hw4
     have HW4 := Lib.hid hw4
     have HB4 := Lib.hid (HB3.out.trans (hb4.mono HB3.out.size))
     have HBB4 := Lib.hid (HBB3.out.below hb4 (Nat.le_refl _))
     have HOFF := Lib.hid (HBB3.out.off (Nat.le_refl _))
     clear hw4 hb4
     go_wp2_with fail
     refine (subtractTimes_any _ _ n n _ ds _ m d es 1 _ (by first | rfl | omega) _ HW4.out (by rw [HL.out]; omega) HX.out.1 HBB4.out HOFF.out HY.out.1 (by omega) (by omega) (by omega)).mono ?_
     rintro e w5 ⟨rfl, hw5, hg5⟩
     rw [List.drop_zero, List.take_of_length_le (by rw [HL.out]; exact Nat.le_refl _), upd_all _ _ _ HL.out] at hw5
     have HW5 := Lib.hid hw5
     have HB5 := Lib.hid (HB4.out.grown hg5 HB4.out.size (fun k hk => by have := HW4.out.lt.1; have := HB3.out.size; simp at hk; omega))
     clear hw5 hg5
     go_wp2_with fail
     refine (natOrNil_any _ n _ _ (by simp) _ HW5.out (difAt_digs _ _ _ _ HX.out.1) (by omega)).mono ?_
     rintro e w6 ⟨⟨v, rfl, ho, _⟩, rfl⟩
     have HO := Lib.hid ho
     clear ho
     go_wp2
     go_ret
     refine ⟨_, rfl, ?_, HB5.out⟩
     have hle2 : es.length ≤ n := by have h := canon_len HY.out HX.out.1 HLE.out; rw [HL.out] at h; exact h
     have hv := (sub_val ds es 1 n HX.out.1 HL.out hle2 (by have := HLE.out; omega)).1
     rw [Nat.one_mul] at hv
     have hlt : val ds - val es < 1000000000 ^ 60 := Nat.lt_of_le_of_lt (Nat.sub_le _ _) (Nat.lt_of_lt_of_le (val_lt HX.out.1) (Nat.pow_le_pow_right (by decide) (by rw [HL.out]; omega)))
     rw [HEQ.out, ← capd_of hlt, ← hv]
     exact HO.out.based HB3.out.size
end Go.Proofs.YtaboodioabopnaaGreat
namespace Go.Proofs.YtaboodioabopnaaGreat
open Go.RowKit Nt
set_option linter.unusedVariables false
theorem made_whole {w : World} {base g N : Nat} (h : w.ownsRow base 3 1 (.slice (some ⟨g, 0, none⟩) N N) N (madeCells (Value.int .i64 0).cells (N * 1)).toList) : Whole w base g 3 (nats (List.replicate N 0)) := by
 have hz : (madeCells (Value.int .i64 0).cells (N * 1)).toList = nats (List.replicate N 0) := by
   rw [nats_replicate, Nat.mul_one]; exact toList_madeCells_one _ _
 rw [hz] at h
 unfold Whole
 rw [nats_len, List.length_replicate]
 exact h
theorem val_upd (Y : List Nat) (o r : Nat) (F : Nat → Nat) (h : o + r ≤ Y.length) : val (upd Y o r F) = val (Y.take o) + 1000000000 ^ o * (vs F r + 1000000000 ^ r * val (Y.drop (o + r))) := by
 unfold upd
 rw [val_append, val_append, vs_range, List.length_take, Nat.min_eq_left (by omega), List.length_map, List.length_range]
theorem val_win (Y : List Nat) (o r : Nat) (h : o + r ≤ Y.length) : val Y = val (Y.take o) + 1000000000 ^ o * (val ((Y.drop o).take r) + 1000000000 ^ r * val (Y.drop (o + r))) := by
 rw [val_take_drop Y o (by omega), val_take_drop (Y.drop o) r (by simp; omega), List.drop_drop]
theorem drop_upd (Y : List Nat) (o r : Nat) (F : Nat → Nat) (h : o + r ≤ Y.length) : (upd Y o r F).drop (o + r) = Y.drop (o + r) := by
 unfold upd
 rw [← List.append_assoc, List.drop_left' (by simp; omega)]
theorem mul_step (Y es : List Nat) (k m x : Nat) (hY : Digs Y) (hm : es.length = m) (hes : Digs es) (hx : x < 1000000000) (hl : k + m + 1 ≤ Y.length) (hz : val (Y.drop (k + m)) = 0) :
   Digs (upd Y k (m + 1) (sumAt ((Y.drop k).take (m + 1)) es x)) ∧ val (upd Y k (m + 1) (sumAt ((Y.drop k).take (m + 1)) es x)) = val Y + 1000000000 ^ k * (x * val es) ∧ val ((upd Y k (m + 1) (sumAt ((Y.drop k).take (m + 1)) es x)).drop (k + 1 + m)) = 0 ∧ sumAt ((Y.drop k).take (m + 1)) es x m = car ((Y.drop k).take (m + 1)) es x m := by
 have hd := val_drop_succ Y (k + m) (by omega)
 rw [hz] at hd
 have hz1 : val (Y.drop (k + m + 1)) = 0 := by omega
 have hY0 : Y[k + m] = 0 := by omega
 have hyd : Digs ((Y.drop k).take (m + 1)) := (hY.drop k).take _
 have hy0 : ((Y.drop k).take (m + 1)).getD m 0 = 0 := by rw [win_getD Y k (m + 1) m (by omega) (by omega)]; exact hY0
 have e1 := val_upd Y k (m + 1) (sumAt ((Y.drop k).take (m + 1)) es x) (by omega)
 have e2 := val_win Y k (m + 1) (by omega)
 have e3 := drop_upd Y k (m + 1) (sumAt ((Y.drop k).take (m + 1)) es x) (by omega)
 have hyl : ((Y.drop k).take (m + 1)).length ≤ m + 1 := by simp; omega
 have z0 : ∀ a b : Nat, a + b * 0 = a := by intro a b; rw [Nat.mul_zero]; rfl
 rw [← Nat.add_assoc k m 1, hz1, z0] at e1 e2
 generalize (Y.drop k).take (m + 1) = ys at *
 have hcl := car_lt ys es x m hyd hes hx
 have he0 : es.getD m 0 = 0 := by simp [List.getElem?_eq_none (show es.length ≤ m by omega)]
 have hF : sumAt ys es x m = car ys es x m := by
   simp only [sumAt]
   rw [hy0, he0, Nat.zero_mul]
   omega
 have hc : car ys es x (m + 1) = 0 := by
   simp only [car]
   rw [hy0, he0, Nat.zero_mul]
   omega
 have hs := car_sum ys es x (m + 1)
 rw [hc, Nat.mul_zero, Nat.add_zero, List.take_of_length_le (show es.length ≤ m + 1 by omega), List.take_of_length_le hyl] at hs
 refine ⟨digs_upd hY (sumAt_digs _ _ _ _), ?_, ?_, hF⟩
 · rw [e1, e2, hs, Nat.mul_add, Nat.add_assoc]
 · have e4 : k + 1 + m = k + (m + 1) := by omega
   rw [e4, e3]
   exact hz1
def mulN (xs ys : List Int) : List Nat := if okI xs = true ∧ okI ys = true then capd (val (toN xs) * val (toN ys)) else []
theorem mulN_yes {xs ys : List Int} (h1 : okI xs = true) (h2 : okI ys = true) : mulN xs ys = capd (val (toN xs) * val (toN ys)) := by rw [mulN, if_pos ⟨h1, h2⟩]
theorem mulN_no {xs ys : List Int} (h : okI xs = false ∨ okI ys = false) : mulN xs ys = [] := by rw [mulN, if_neg (by rintro ⟨h1, h2⟩; rcases h with h | h <;> simp_all)]
set_option maxRecDepth 100000 in
set_option maxHeartbeats 1000000 in
theorem l02Mul_any (A B : Option Addr) (n c m d : Nat) (ds es : List Nat) (w : World) (hA : VRow w A n (nats ds)) (hB : VRow w B m (nats es)) (hds : Digs ds) (hes : Digs es) (hnm : n + m ≤ 1048576) :
   Calls Tryz.prog 102 #[.slice A n c, .slice B m d] w (OwnR 3 (nats (dig (val ds * val es))) w) := by
 obtain ⟨i0, hi, hz0, hz1, hz2⟩ := info_parts info_int
 have HL := Lib.hid (show ds.length = n by simpa [nats_len] using hA.1)
 have HM := Lib.hid (show es.length = m by simpa [nats_len] using hB.1)
 by_cases h0 : n = 0
 · have HQ := Lib.hid (show dig (val ds * val es) = [] by rw [List.eq_nil_of_length_eq_zero (HL.out.trans h0)]; simp [val, dig_zero])
   subst h0
   go_enter Tryz.func102, Tryz.ntmps102
   go_wp2
   go_ret
   rw [HQ.out]
   exact ⟨_, rfl, OwnV.nil _ _ _, Below.refl _ _⟩
 by_cases h1 : m = 0
 · have HQ := Lib.hid (show dig (val ds * val es) = [] by rw [List.eq_nil_of_length_eq_zero (HM.out.trans h1)]; simp [val, dig_zero])
   subst h1
   go_enter Tryz.func102, Tryz.ntmps102
   go_wp2
   go_ret
   rw [HQ.out]
   exact ⟨_, rfl, OwnV.nil _ _ _, Below.refl _ _⟩
 have HA := Lib.hid hA
 have HBB := Lib.hid hB
 have HD := Lib.hid hds
 have HE := Lib.hid hes
 have h0b : ((n : Int) == 0) = false := by simp; omega
 have h1b : ((m : Int) == 0) = false := by simp; omega
 clear hA hB hds hes
 go_enter Tryz.func102, Tryz.ntmps102
 go_wp2_with (at_make; refine wpList_make_full _ rfl _ _ _ rfl w.heap.size 3 i0 _ 1 Tryz.underlying33 hi hz0 hz1 .i64 .i64 _ _ (n + m) rfl rfl rfl rfl (by rw [hz2]; omega) (by unfold maxLen; omega) (Nat.le_refl _) ?_; intro w1 hown hgrow)
 have HB1 := Lib.hid ((Below.refl w.heap.size w).grown hgrow (Nat.le_refl _) (by simp))
 have HW1 := Lib.hid (made_whole hown)
 clear hown hgrow
 go_wp2
 go_loopw [28] (fun i wr => ∃ (k : Nat) (Y : List Nat), k ≤ n ∧ i = .int .i64 k ∧ Y.length = n + m ∧ Digs Y ∧ val Y = val (ds.take k) * val es ∧ val (Y.drop (k + m)) = 0 ∧ Whole wr w.heap.size w.heap.size 3 (nats Y) ∧ Below w.heap.size w wr) (fun i _ => n - (intOf i).toNat)
 case atStart => exact ⟨0, _, Nat.zero_le _, rfl, by simp, digs_replicate _, by rw [val_zeros]; simp [val], by rw [List.drop_replicate, val_zeros], HW1.out, HB1.out⟩
 case round =>
   obtain ⟨k, Y, hk, rfl, hYl, hYd, hYv, hYz, hw, hb⟩ := hrel
   have HYL := Lib.hid hYl
   have HYD := Lib.hid hYd
   have HYV := Lib.hid hYv
   have HYZ := Lib.hid hYz
   have HW := Lib.hid hw
   have HB := Lib.hid hb
   clear hYl hYd hYv hYz hw hb
   by_cases hlt : k < n
   · obtain ⟨ga, oa, rfl, hga, hca⟩ := (HA.out.below HB.out (Nat.le_refl _)).at_ hlt
     rw [nats_get] at hca
     have hxl : k < ds.length := by have := HL.out; omega
     obtain ⟨x, hx⟩ : ∃ x, ds[k] = x := ⟨_, rfl⟩
     have hxb : x < 1000000000 := hx ▸ HD.out.get hxl
     have HVT := Lib.hid (show val (ds.take (k + 1)) = val (ds.take k) + 1000000000 ^ k * x by rw [val_take_succ ds k hxl, hx])
     rw [hx] at hca
     clear hx
     have HST := Lib.hid (mul_step Y es k m x HYD.out HM.out HE.out hxb (by rw [HYL.out]; omega) HYZ.out)
     obtain ⟨ys, hys⟩ : ∃ ys, (Y.drop k).take (m + 1) = ys := ⟨_, rfl⟩
     have HYS := Lib.hid hys
     have HYSD := Lib.hid (show Digs ys from hys ▸ (HYD.out.drop k).take _)
     rw [hys] at HST
     clear hys
     go_wp2
     go_loopw [8, 35] (fun cr i wq => ∃ j : Nat, j ≤ m ∧ i = .int .i64 j ∧ cr = .int .i64 (car ys es x j : Nat) ∧ Whole wq w.heap.size w.heap.size 3 (nats (upd Y k j (sumAt ys es x))) ∧ Below w.heap.size w wq) (fun _ i _ => m - (intOf i).toNat)
     case atStart => exact ⟨0, Nat.zero_le _, rfl, rfl, by rw [upd_zero]; exact HW.out, HB.out⟩
     case round =>
       obtain ⟨j, hj, rfl, rfl, hw2, hb2⟩ := hrel
       have HW2 := Lib.hid hw2
       have HB2 := Lib.hid hb2
       clear hw2 hb2
       have hkj : k + j < Y.length := by rw [HYL.out]; omega
       have hul : (upd Y k j (sumAt ys es x)).length = Y.length := upd_len _ _ _ _ (by omega)
       have hfz := HW2.out.frozen (k + j)
       have hcb := car_lt ys es x j HYSD.out HE.out hxb
       have HSET := Lib.hid (fun u => HW2.out.set (k + j) u)
       have HUS := Lib.hid (upd_set Y k j (sumAt ys es x) hkj)
       have hcell : wr.cell? ⟨w.heap.size, k + j, none⟩ = some (.int .i64 ((Y[k + j]'hkj : Nat) : Int)) := by
         have h := HW2.out.cell (k + j) (by rw [nats_len]; omega)
         rw [h, nats_get]
         congr 3
         have := upd_get? Y k j (sumAt ys es x) hkj
         rw [List.getElem?_eq_getElem (by omega)] at this
         simpa using this
       by_cases hjm : j < m
       · have hyk : ys.getD j 0 = Y[k + j]'hkj := by have h := win_getD Y k (m + 1) j (by omega) (by rw [HYL.out]; omega); rw [HYS.out] at h; exact h
         obtain ⟨y, hy⟩ : ∃ y, Y[k + j]'hkj = y := ⟨_, rfl⟩
         rw [hy] at hcell hyk
         have hyb : y < 1000000000 := by rw [← hyk]; exact HYSD.out.getD j
         have hsum : sumAt ys es x j = (ys.getD j 0 + car ys es x j + es.getD j 0 * x) % 1000000000 := rfl
         have hcar : car ys es x (j + 1) = (ys.getD j 0 + car ys es x j + es.getD j 0 * x) / 1000000000 := rfl
         rw [hyk] at hsum hcar
         obtain ⟨cr, hcr⟩ : ∃ cr, car ys es x j = cr := ⟨_, rfl⟩
         rw [hcr] at hcb hsum hcar ⊢
         clear hul hy hyk hcr
         obtain ⟨gb, ob, rfl, hgb, hcb'⟩ := (HBB.out.below HB2.out (Nat.le_refl _)).at_ hjm
         rw [nats_get] at hcb'
         have hel : j < es.length := by have := HM.out; omega
         obtain ⟨z, hz⟩ : ∃ z, es[j] = z := ⟨_, rfl⟩
         have hzb : z < 1000000000 := hz ▸ HE.out.get hel
         have hgd : es.getD j 0 = z := by rw [← hz]; simp [hel]
         rw [hz] at hcb'
         rw [hgd] at hsum hcar
         obtain ⟨p, hp⟩ : ∃ p, z * x = p := ⟨_, rfl⟩
         have hpb : p ≤ 999999999 * 999999999 := by rw [← hp]; exact Nat.mul_le_mul (by omega) (by omega)
         rw [hp] at hsum hcar
         have hpz : (x : Int) * (z : Int) = (p : Int) := by rw [← hp, Int.mul_comm]; simp
         have HSUM := Lib.hid hsum
         have HCAR := Lib.hid hcar
         clear hsum hcar hz hp hgd
         have hjmz : (j : Int) < (m : Int) := by omega
         have hltz : (k : Int) < (n : Int) := by omega
         have hkjz : (k : Int) + j < (n : Int) + m := by omega
         have hkj2 : k + j < n + m := by omega
         clear hkj
         go_wp2
         have e1 : ((y : Int) + p + cr) % 1000000000 = ((sumAt ys es x j : Nat) : Int) := by rw [HSUM.out]; omega
         have e2 : ((y : Int) + p + cr) / 1000000000 = ((car ys es x (j + 1) : Nat) : Int) := by rw [HCAR.out]; omega
         refine ⟨⟨j + 1, by omega, by go_num, ?_, ?_, ?_⟩, by simp [intOf]; omega⟩
         · rw [← e2]
         · have h := HSET.out (.int .i64 ((sumAt ys es x j : Nat) : Int))
           rw [nats_set, HUS.out, ← e1] at h
           exact h
         · exact HB2.out.setCell (Nat.le_refl _) _
       · obtain rfl : j = m := by omega
         have hFm := HST.out.2.2.2
         obtain ⟨cr, hcr⟩ : ∃ cr, car ys es x j = cr := ⟨_, rfl⟩
         rw [hcr] at hcb hFm ⊢
         have HFM := Lib.hid hFm
         clear hul hcr hFm
         have hkjz : (k : Int) + j < (n : Int) + j := by omega
         have hkj2 : k + j < n + j := by omega
         go_wp2
         refine ⟨⟨k + 1, _, by omega, by go_num, ?_, HST.out.1, ?_, HST.out.2.2.1, ?_, HB2.out.setCell (Nat.le_refl _) _⟩, by simp [intOf]; omega⟩
         · rw [upd_len _ _ _ _ (by rw [HYL.out]; omega), HYL.out]
         · rw [HST.out.2.1, HYV.out, HVT.out, Nat.add_mul, Nat.mul_assoc]
         · have h := HSET.out (.int .i64 ((sumAt ys es x j : Nat) : Int))
           rw [nats_set, HUS.out, HFM.out] at h
           exact h
   · obtain rfl : k = n := by omega
     have hov := OwnV.of_whole HW.out
     rw [nats_len, HYL.out] at hov
     have HOV := Lib.hid hov
     clear hov
     go_wp2_with fail
     refine (l02Trim_own _ _ _ _ _ _ HOV.out HYD.out).mono ?_
     rintro e w2 ⟨rfl, hov, rfl⟩
     have hv := HYV.out
     rw [List.take_of_length_le (by rw [HL.out]; exact Nat.le_refl _)] at hv
     rw [hv] at hov ⊢
     have HOV2 := Lib.hid hov
     clear hov hv
     go_wp2
     go_ret
     exact ⟨_, rfl, HOV2.out, HB.out⟩
set_option maxRecDepth 100000 in
set_option maxHeartbeats 1000000 in
theorem natMul_impl (A B : Option Addr) (n c m d : Nat) (xs ys : List Int) (w : World) (hA : VRow w A n (ints xs)) (hB : VRow w B m (ints ys)) (hn : n ≤ maxLen) (hm : m ≤ maxLen) :
   Calls Tryz.prog 78 #[.slice A n c, .slice B m d] w (OwnR 3 (nats (mulN xs ys)) w) := by
 have HA := Lib.hid hA
 have HB := Lib.hid hB
 clear hA hB
 cases hx : okI xs with
 | false =>
   have HEQ := Lib.hid (mulN_no (xs := xs) (ys := ys) (.inl hx))
   go_enter Tryz.func78, Tryz.ntmps78
   go_wp2_with fail
   refine (natOk_impl _ _ _ xs _ HA.out hn).mono ?_
   rintro e w1 ⟨rfl, hb⟩
   rw [hx]
   have HB1 := Lib.hid hb
   clear hb
   go_wp2
   go_ret
   rw [HEQ.out]
   exact ⟨_, rfl, OwnV.nil _ _ _, HB1.out⟩
 | true =>
   obtain ⟨hxn, hxc, hxl⟩ := okI_nats hx
   go_enter Tryz.func78, Tryz.ntmps78
   go_wp2_with fail
   refine (natOk_impl _ _ _ xs _ HA.out hn).mono ?_
   rintro e w1 ⟨rfl, hb⟩
   rw [hx]
   have HB1 := Lib.hid hb
   clear hb
   go_wp2_with fail
   refine (natOk_impl _ _ _ ys _ (HB.out.below HB1.out (Nat.le_refl _)) hm).mono ?_
   rintro e w2 ⟨rfl, hb⟩
   have HB2 := Lib.hid (HB1.out.trans (hb.mono HB1.out.size))
   clear hb
   cases hy : okI ys with
   | false =>
     have HEQ := Lib.hid (mulN_no (xs := xs) (ys := ys) (.inr hy))
     go_wp2
     go_ret
     rw [HEQ.out]
     exact ⟨_, rfl, OwnV.nil _ _ _, HB2.out⟩
   | true =>
     obtain ⟨hyn, hyc, hyl⟩ := okI_nats hy
     have hA2 := HA.out.below HB2.out (Nat.le_refl _)
     have hBB2 := HB.out.below HB2.out (Nat.le_refl _)
     rw [hxn] at hA2
     rw [hyn] at hBB2
     have HEQ := Lib.hid (mulN_yes hx hy)
     clear hxn hyn hx hy HA HB HB1
     generalize toN xs = ds at *
     generalize toN ys = es at *
     have HL := Lib.hid (show ds.length = n by simpa [nats_len] using hA2.1)
     have HM := Lib.hid (show es.length = m by simpa [nats_len] using hBB2.1)
     have hn60 : n ≤ 60 := by have := HL.out; omega
     have hm60 : m ≤ 60 := by have := HM.out; omega
     have HX := Lib.hid hxc
     have HY := Lib.hid hyc
     have HA2 := Lib.hid hA2
     have HBB2 := Lib.hid hBB2
     clear hxc hyc hA2 hBB2 hn hm hxl hyl
     obtain ⟨i0, hi, hz0, hz1, hz2⟩ := info_parts info_int
     go_wp2_with (at_make; refine wpList_make_full _ rfl _ _ _ rfl w2.heap.size 3 i0 _ 1 Tryz.underlying33 hi hz0 hz1 .i64 .i64 _ _ (n + m) rfl rfl rfl rfl (by rw [hz2]; omega) (by unfold maxLen; omega) (Nat.le_refl _) ?_; intro w3 hown hgrow)
     have hb3 := (Below.refl w2.heap.size w2).grown hgrow (Nat.le_refl _) (by simp)
     have HB3 := Lib.hid hb3
     have HW3 := Lib.hid (made_whole hown)
     clear hown hgrow hb3
     go_wp2
     go_loopw [25] (fun i wr => ∃ (k : Nat) (Y : List Nat), k ≤ n ∧ i = .int .i64 k ∧ Y.length = n + m ∧ Digs Y ∧ val Y = val (ds.take k) * val es ∧ val (Y.drop (k + m)) = 0 ∧ Whole wr w2.heap.size w2.heap.size 3 (nats Y) ∧ Below w2.heap.size w2 wr) (fun i _ => n - (intOf i).toNat)
     case atStart => exact ⟨0, _, Nat.zero_le _, rfl, by simp, digs_replicate _, by rw [val_zeros]; simp [val], by rw [List.drop_replicate, val_zeros], HW3.out, HB3.out⟩
     case round =>
       obtain ⟨k, Y, hk, rfl, hYl, hYd, hYv, hYz, hw, hb⟩ := hrel
       have HYL := Lib.hid hYl
       have HYD := Lib.hid hYd
       have HYV := Lib.hid hYv
       have HYZ := Lib.hid hYz
       have HW := Lib.hid hw
       have HBr := Lib.hid hb
       clear hYl hYd hYv hYz hw hb
       by_cases hlt : k < n
       · obtain ⟨ga, oa, rfl, hga, hca⟩ := (HA2.out.below HBr.out (Nat.le_refl _)).at_ hlt
         rw [nats_get] at hca
         have hxl : k < ds.length := by have := HL.out; omega
         obtain ⟨x, hx⟩ : ∃ x, ds[k] = x := ⟨_, rfl⟩
         have hxb : x < 1000000000 := hx ▸ HX.out.1.get hxl
         have HVT := Lib.hid (show val (ds.take (k + 1)) = val (ds.take k) + 1000000000 ^ k * x by rw [val_take_succ ds k hxl, hx])
         rw [hx] at hca
         clear hx
         have HST := Lib.hid (mul_step Y es k m x HYD.out HM.out HY.out.1 hxb (by rw [HYL.out]; omega) HYZ.out)
         have hltz : (k : Int) < (n : Int) := by omega
         have hend : ((k + m + 1 : Nat) : Int) = (k : Int) + m + 1 := by omega
         have hendc : k + m + 1 ≤ n + m := by omega
         go_wp2_with fail
         rw [show k + m + 1 - k = m + 1 by omega]
         refine (addTimes_any _ k (m + 1) (m + 1) _ Y _ m d es x _ (by first | rfl | omega) _ HW.out (by rw [HYL.out]; omega) HYD.out (HBB2.out.below HBr.out (Nat.le_refl _)) (HBB2.out.off (Nat.le_refl _)) HY.out.1 hxb (by omega) (by omega)).mono ?_
         rintro e w4 ⟨rfl, hw4, hg4⟩
         have HW4 := Lib.hid hw4
         have HB4 := Lib.hid (HBr.out.grown hg4 HBr.out.size (fun j hj => by simp at hj; omega))
         clear hw4 hg4
         go_wp2
         refine ⟨⟨k + 1, _, by omega, by go_num, ?_, HST.out.1, ?_, HST.out.2.2.1, HW4.out, HB4.out⟩, by simp [intOf]; omega⟩
         · rw [upd_len _ _ _ _ (by rw [HYL.out]; omega), HYL.out]
         · rw [HST.out.2.1, HYV.out, HVT.out, Nat.add_mul, Nat.mul_assoc]
       · obtain rfl : k = n := by omega
         go_wp2_with fail
         refine (natOrNil_any _ (k + m) _ Y HYL.out _ HW.out HYD.out (by omega)).mono ?_
         rintro e w5 ⟨⟨v, rfl, ho, _⟩, rfl⟩
         have HO := Lib.hid ho
         clear ho
         go_wp2
         go_ret
         refine ⟨_, rfl, ?_, HB2.out.trans (HBr.out.mono HB2.out.size)⟩
         have hv := HYV.out
         rw [List.take_of_length_le (by rw [HL.out]; exact Nat.le_refl _)] at hv
         rw [HEQ.out, ← hv]
         exact HO.out.based HB2.out.size
end Go.Proofs.YtaboodioabopnaaGreat
namespace Go.Proofs.YtaboodioabopnaaGreat
open Go.RowKit
set_option linter.unusedVariables false
end Go.Proofs.YtaboodioabopnaaGreat
