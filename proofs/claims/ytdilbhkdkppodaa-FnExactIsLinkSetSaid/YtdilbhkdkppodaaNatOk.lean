/- Contracts of NatOk, of the model and of the program. Conditions: none. -/
import Derived.Test.YtdilbhkdkppodaaProg
import Derived.Test.YtdilbhkdkppodaaOwn
import Derived.Test.YtdilbhkdkppodaaNatMath
namespace Go.Proofs.Ytdilbhkdkppodaa
open Go.RowKit Nt
set_option linter.unusedVariables false

/-- What NatOk answers. -/
def okI (xs : List Int) : Bool := decide (xs.length ≤ 60 ∧ (∀ x ∈ xs, 0 ≤ x ∧ x < 1000000000) ∧ xs.getLast? ≠ some 0)
theorem okI_iff {xs : List Int} : okI xs = true ↔ xs.length ≤ 60 ∧ (∀ x ∈ xs, 0 ≤ x ∧ x < 1000000000) ∧ xs.getLast? ≠ some 0 := by simp [okI]
theorem okI_false {xs : List Int} (h : ¬ (xs.length ≤ 60 ∧ (∀ x ∈ xs, 0 ≤ x ∧ x < 1000000000) ∧ xs.getLast? ≠ some 0)) : okI xs = false := by
  cases e : okI xs with
  | false => rfl
  | true => exact absurd (okI_iff.mp e) h
/-- The limbs of a number that is valid. -/
def toN (xs : List Int) : List Nat := xs.map Int.toNat
theorem okI_nats {xs : List Int} (h : okI xs = true) : ints xs = nats (toN xs) ∧ Canon (toN xs) ∧ (toN xs).length ≤ 60 := by
  unfold toN
  obtain ⟨h1, h2, h3⟩ := okI_iff.mp h
  have e : xs = (xs.map Int.toNat).map (fun d : Nat => (d : Int)) := by
    rw [List.map_map]
    conv => lhs; rw [← List.map_id xs]
    apply List.map_congr_left
    intro x hx
    have := h2 x hx
    simp; omega
  refine ⟨by rw [nats, ← e], ⟨?_, ?_⟩, by simpa using h1⟩
  · intro d hd
    obtain ⟨x, hx, rfl⟩ := List.mem_map.mp hd
    have := h2 x hx
    omega
  · rw [List.getLast?_map]
    intro hl
    cases hq : xs.getLast? with
    | none => rw [hq] at hl; simp at hl
    | some x =>
      have hx := h2 x (List.mem_of_getLast? hq)
      rw [hq] at hl h3
      simp at hl h3
      omega
theorem okI_of_nats {ds : List Nat} (h : Canon ds) (hl : ds.length ≤ 60) : okI (ds.map fun d : Nat => (d : Int)) = true := by
  rw [okI_iff]
  refine ⟨by simpa using hl, ?_, ?_⟩
  · intro x hx
    obtain ⟨d, hd, rfl⟩ := List.mem_map.mp hx
    have := h.1 d hd
    omega
  · rw [List.getLast?_map]
    have := h.2
    cases hq : ds.getLast? with
    | none => simp
    | some x => rw [hq] at this; simp at this ⊢; omega
theorem toN_nats (ds : List Nat) : toN (ds.map fun d : Nat => (d : Int)) = ds := by simp [toN, Function.comp_def]
theorem toN_len (xs : List Int) : (toN xs).length = xs.length := by simp [toN]
theorem last_at {xs : List Int} (h : 0 < xs.length) : xs.getLast? = some (xs[xs.length - 1]'(by omega)) := by
  rw [List.getLast?_eq_getElem?, List.getElem?_eq_getElem]

theorem l01In_yes (x a b : Int) (w : World) (h1 : a ≤ x) (h2 : x ≤ b) :
    Calls Try.prog 32 #[.int .i64 x, .int .i64 a, .int .i64 b] w fun e w' => e = .returned (.bool true) ∧ w' = w := by
  go_enter Try.func32, Try.ntmps32
  go_wp2
  go_ret
  exact ⟨rfl, rfl⟩
theorem l01In_no (x a b : Int) (w : World) (h : x < a ∨ b < x) :
    Calls Try.prog 32 #[.int .i64 x, .int .i64 a, .int .i64 b] w fun e w' => e = .returned (.bool false) ∧ w' = w := by
  by_cases h1 : a ≤ x
  · have h2 : ¬ x ≤ b := by omega
    go_enter Try.func32, Try.ntmps32
    go_wp2
    go_ret
    exact ⟨rfl, rfl⟩
  · go_enter Try.func32, Try.ntmps32
    go_wp2
    go_ret
    exact ⟨rfl, rfl⟩
set_option maxRecDepth 100000 in
set_option maxHeartbeats 1000000 in
theorem natOk_impl (A : Option Addr) (n c : Nat) (xs : List Int) (w : World) (hA : VRow w A n (ints xs)) (hn : n ≤ maxLen) :
    Calls Try.prog 68 #[.slice A n c] w fun e w' => e = .returned (.bool (okI xs)) ∧ Below w.heap.size w w' := by
  unfold maxLen at hn
  have HL := Lib.hid (show xs.length = n by simpa [ints] using hA.1)
  by_cases h60 : 60 < n
  · have hk : okI xs = false := okI_false (fun h => by have := h.1; have := HL.out; omega)
    rw [hk]
    go_enter Try.func68, Try.ntmps68
    go_wp2
    go_ret
    exact ⟨rfl, Below.refl _ _⟩
  go_enter Try.func68, Try.ntmps68
  go_wp2
  go_loopw [10] (fun i wr => ∃ k q : Nat, k ≤ n ∧ i = .int .i64 k ∧ wr = w.drewN q ∧ ∀ j, j < k → 0 ≤ xs.getD j 0 ∧ xs.getD j 0 < 1000000000) (fun i _ => n - (intOf i).toNat)
  case atStart => exact ⟨0, 0, Nat.zero_le _, rfl, rfl, fun j h => absurd h (Nat.not_lt_zero j)⟩
  case round =>
    obtain ⟨k, q, hk, rfl, rfl, hall⟩ := hrel
    have HALL := Lib.hid hall
    clear hall
    by_cases hlt : k < n
    · obtain ⟨g, o, rfl, hg, hc⟩ := hA.at_ hlt
      have hkx : k < xs.length := by have := HL.out; omega
      rw [ints_get] at hc
      obtain ⟨x, hx⟩ : ∃ x, xs[k] = x := ⟨_, rfl⟩
      rw [hx] at hc
      have HX := Lib.hid hx
      clear hx
      by_cases h1 : x < 0
      · go_wp2
        go_ret
        refine ⟨ret_bool (okI_false fun h => ?_).symm, below_drewN (Below.refl _ _) _⟩
        have := h.2.1 xs[k] (List.getElem_mem hkx)
        have := HX.out
        omega
      · by_cases h2 : x < 1000000000
        · go_wp2
          refine ⟨⟨k + 1, _, by omega, by go_num, rfl, fun j hj => ?_⟩, by simp [intOf]; omega⟩
          by_cases hjk : j < k
          · exact HALL.out j hjk
          · obtain rfl : j = k := by omega
            have := HX.out
            simp [hkx]; omega
        · go_wp2
          go_ret
          refine ⟨ret_bool (okI_false fun h => ?_).symm, below_drewN (Below.refl _ _) _⟩
          have := h.2.1 xs[k] (List.getElem_mem hkx)
          have := HX.out
          omega
    · obtain rfl : k = n := by omega
      have hin : ∀ x ∈ xs, 0 ≤ x ∧ x < 1000000000 := by
        intro x hx
        obtain ⟨i, hi, rfl⟩ := List.mem_iff_getElem.mp hx
        have := HALL.out i (by have := HL.out; omega)
        simpa [hi] using this
      by_cases h0 : k = 0
      · subst h0
        go_wp2
        go_ret
        refine ⟨ret_bool (okI_iff.mpr ⟨by have := HL.out; omega, hin, ?_⟩).symm, below_drewN (Below.refl _ _) _⟩
        rw [List.eq_nil_of_length_eq_zero HL.out]; simp
      · obtain ⟨g, o, rfl, hg, hc⟩ := hA.at_ (show k - 1 < k by omega)
        have hkx : k - 1 < xs.length := by have := HL.out; omega
        rw [ints_get] at hc
        have hlast := last_at (xs := xs) (by omega)
        have hix : xs[xs.length - 1]'(by omega) = xs[k - 1] := by congr 1; have := HL.out; omega
        obtain ⟨x, hx⟩ : ∃ x, xs[k - 1] = x := ⟨_, rfl⟩
        rw [hx] at hc hix
        rw [hix] at hlast
        have hsub : IntKind.i64.wrap ((k : Int) - 1) = ((k - 1 : Nat) : Int) := by rw [IntKind.wrap_i64]; omega
        have HLA := Lib.hid hlast
        have HIN := Lib.hid hin
        clear hlast hix hx hin
        by_cases hx0 : x = 0
        · subst hx0
          go_wp2
          go_ret
          exact ⟨ret_bool (Eq.trans (b := false) (by simp; omega) (okI_false fun h => h.2.2 HLA.out).symm), below_drewN (Below.refl _ _) _⟩
        · go_wp2
          go_ret
          refine ⟨ret_bool (Eq.trans (b := true) (by simp; omega) (okI_iff.mpr ⟨by have := HL.out; omega, HIN.out, ?_⟩).symm), below_drewN (Below.refl _ _) _⟩
          rw [HLA.out]; simpa using hx0
set_option maxRecDepth 100000 in
set_option maxHeartbeats 1000000 in
theorem natOk_spec (A : Option Addr) (n c : Nat) (xs : List Int) (w : World) (hA : VRow w A n (ints xs)) (hn : n ≤ maxLen) :
    Calls Try.prog 46 #[.slice A n c] w fun e w' => e = .returned (.bool (okI xs)) ∧ Below w.heap.size w w' := by
  unfold maxLen at hn
  have HL := Lib.hid (show xs.length = n by simpa [ints] using hA.1)
  go_enter Try.func46, Try.ntmps46
  go_wp2
  go_loopw [7] (fun i wr => ∃ k q : Nat, k ≤ n ∧ i = .int .i64 k ∧ wr = w.drewN q ∧ ∀ j, j < k → 0 ≤ xs.getD j 0 ∧ xs.getD j 0 < 1000000000) (fun i _ => n - (intOf i).toNat)
  case atStart => exact ⟨0, 0, Nat.zero_le _, rfl, rfl, fun j h => absurd h (Nat.not_lt_zero j)⟩
  case round =>
    obtain ⟨k, q, hk, rfl, rfl, hall⟩ := hrel
    have HALL := Lib.hid hall
    clear hall
    by_cases hlt : k < n
    · obtain ⟨g, o, rfl, hg, hc⟩ := hA.at_ hlt
      have hkx : k < xs.length := by have := HL.out; omega
      rw [ints_get] at hc
      obtain ⟨x, hx⟩ : ∃ x, xs[k] = x := ⟨_, rfl⟩
      rw [hx] at hc
      have HX := Lib.hid hx
      clear hx
      by_cases h1 : x < 0
      · go_wp2_with fail
        refine (l01In_no _ _ _ _ (by omega)).mono ?_
        rintro e w1 ⟨rfl, rfl⟩
        go_wp2
        go_ret
        refine ⟨ret_bool (okI_false fun h => ?_).symm, below_drewN (Below.refl _ _) _⟩
        have := h.2.1 xs[k] (List.getElem_mem hkx)
        have := HX.out
        omega
      · by_cases h2 : x < 1000000000
        · go_wp2_with fail
          refine (l01In_yes _ _ _ _ (by omega) (by omega)).mono ?_
          rintro e w1 ⟨rfl, rfl⟩
          go_wp2
          refine ⟨⟨k + 1, _, by omega, by go_num, rfl, fun j hj => ?_⟩, by simp [intOf]; omega⟩
          by_cases hjk : j < k
          · exact HALL.out j hjk
          · obtain rfl : j = k := by omega
            have := HX.out
            simp [hkx]; omega
        · go_wp2_with fail
          refine (l01In_no _ _ _ _ (by omega)).mono ?_
          rintro e w1 ⟨rfl, rfl⟩
          go_wp2
          go_ret
          refine ⟨ret_bool (okI_false fun h => ?_).symm, below_drewN (Below.refl _ _) _⟩
          have := h.2.1 xs[k] (List.getElem_mem hkx)
          have := HX.out
          omega
    · obtain rfl : k = n := by omega
      by_cases h60 : 60 < k
      · go_wp2
        go_ret
        exact ⟨ret_bool (okI_false fun h => by have := h.1; have := HL.out; omega).symm, below_drewN (Below.refl _ _) _⟩
      have hin : ∀ x ∈ xs, 0 ≤ x ∧ x < 1000000000 := by
        intro x hx
        obtain ⟨i, hi, rfl⟩ := List.mem_iff_getElem.mp hx
        have := HALL.out i (by have := HL.out; omega)
        simpa [hi] using this
      by_cases h0 : k = 0
      · subst h0
        go_wp2
        go_ret
        refine ⟨ret_bool (okI_iff.mpr ⟨by have := HL.out; omega, hin, ?_⟩).symm, below_drewN (Below.refl _ _) _⟩
        rw [List.eq_nil_of_length_eq_zero HL.out]; simp
      · obtain ⟨g, o, rfl, hg, hc⟩ := hA.at_ (show k - 1 < k by omega)
        have hkx : k - 1 < xs.length := by have := HL.out; omega
        rw [ints_get] at hc
        have hlast := last_at (xs := xs) (by omega)
        have hix : xs[xs.length - 1]'(by omega) = xs[k - 1] := by congr 1; have := HL.out; omega
        obtain ⟨x, hx⟩ : ∃ x, xs[k - 1] = x := ⟨_, rfl⟩
        rw [hx] at hc hix
        rw [hix] at hlast
        have hsub : IntKind.i64.wrap ((k : Int) - 1) = ((k - 1 : Nat) : Int) := by rw [IntKind.wrap_i64]; omega
        have HLA := Lib.hid hlast
        have HIN := Lib.hid hin
        clear hlast hix hx hin
        by_cases hx0 : x = 0
        · subst hx0
          go_wp2
          go_ret
          exact ⟨ret_bool (Eq.trans (b := false) (by simp; omega) (okI_false fun h => h.2.2 HLA.out).symm), below_drewN (Below.refl _ _) _⟩
        · go_wp2
          go_ret
          refine ⟨ret_bool (Eq.trans (b := true) (by simp; omega) (okI_iff.mpr ⟨by have := HL.out; omega, HIN.out, ?_⟩).symm), below_drewN (Below.refl _ _) _⟩
          rw [HLA.out]; simpa using hx0
end Go.Proofs.Ytdilbhkdkppodaa
