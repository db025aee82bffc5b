/- Contracts of NatToInt, of the model and of the program. Conditions: none. -/
import Derived.Test.YtdilbhkdkppodaaProg
import Derived.Test.YtdilbhkdkppodaaNatCmp
namespace Go.Proofs.Ytdilbhkdkppodaa
open Go.RowKit Nt
set_option linter.unusedVariables false

/-- What NatToInt answers. -/
def fitsI (xs : List Int) : Bool := okI xs && decide (val (toN xs) ≤ 9223372036854775807)
def intI (xs : List Int) : Int := if fitsI xs = true then (val (toN xs) : Nat) else 0
theorem fits_iff {xs : List Int} : fitsI xs = true ↔ okI xs = true ∧ val (toN xs) ≤ 9223372036854775807 := by simp [fitsI]
theorem val_drop_le (ds : List Nat) (k : Nat) : val (ds.drop k) ≤ val ds := by
  by_cases h : k ≤ ds.length
  · rw [val_take_drop ds k h]
    have h1 : val (ds.drop k) ≤ 1000000000 ^ k * val (ds.drop k) := Nat.le_mul_of_pos_left _ (pow_pos k)
    omega
  · rw [List.drop_of_length_le (by omega)]; simp [val]
theorem ret_two {z z' : Int} {b b' : Bool} (h1 : z = z') (h2 : b = b') : Ending.returned (.tuple #[.int .i64 z, .bool b]) = .returned (.tuple #[.int .i64 z', .bool b']) := by rw [h1, h2]
theorem int_no {xs : List Int} (h : fitsI xs = false) : (0 : Int) = intI xs := by simp [intI, h]
theorem int_yes {xs : List Int} (h : fitsI xs = true) : ((val (toN xs) : Nat) : Int) = intI xs := by simp [intI, h]

set_option maxRecDepth 100000 in
set_option maxHeartbeats 1000000 in
theorem natToInt_spec (A : Option Addr) (n c : Nat) (xs : List Int) (w : World) (hA : VRow w A n (ints xs)) (hn : n ≤ maxLen) :
    Calls Try.prog 64 #[.slice A n c] w fun e w' => e = .returned (.tuple #[.int .i64 (intI xs), .bool (fitsI xs)]) ∧ Below w.heap.size w w' := by
  have HA := Lib.hid hA
  clear hA
  go_enter Try.func64, Try.ntmps64
  go_wp2_with fail
  refine (natOk_spec _ _ _ xs _ HA.out hn).mono ?_
  rintro e w1 ⟨rfl, hb⟩
  have HB1 := Lib.hid hb
  clear hb
  cases hx : okI xs with
  | false =>
    have hf : fitsI xs = false := by simp [fitsI, hx]
    have HF := Lib.hid hf
    clear hf hx
    go_wp2
    go_ret2
    exact ⟨ret_two (int_no HF.out) HF.out.symm, HB1.out⟩
  | true =>
    obtain ⟨hxn, hxc, hxl⟩ := okI_nats hx
    have hA2 := HA.out.below HB1.out (Nat.le_refl _)
    rw [hxn] at hA2
    have HIF := Lib.hid (fun h => fits_iff (xs := xs) |>.mpr ⟨hx, h⟩)
    have HIN := Lib.hid (fun (h : ¬ val (toN xs) ≤ 9223372036854775807) => show fitsI xs = false by simp [fitsI, h])
    have HIY := Lib.hid (fun h => int_yes (xs := xs) h)
    have HI0 := Lib.hid (fun h => int_no (xs := xs) h)
    clear hxn hx HA
    generalize toN xs = ds at *
    have HL := Lib.hid (show ds.length = n by simpa [nats_len] using hA2.1)
    have HX := Lib.hid hxc
    have HA2 := Lib.hid hA2
    clear hxc hA2
    have HN := Lib.hid hn
    unfold maxLen at hn
    go_wp2_with fail
    refine (l02Cmp_any _ _ _ _ _ _ ds [854775807, 223372036, 9] _ (HA2.out.below ((Below.refl _ _).alloc (Nat.le_refl _) _) (Nat.le_refl _)) ?_ HX.out ⟨by intro d hd; simp at hd; omega, by decide⟩ HN.out (by unfold maxLen; omega)).mono ?_
    · refine ⟨rfl, fun _ => ⟨w1.heap.size, 0, rfl, by simp, fun k hk => ?_⟩⟩
      rcases (by omega : k = 0 ∨ k = 1 ∨ k = 2) with rfl | rfl | rfl <;> simp [nats, ints]
    rintro e w2 ⟨rfl, hb⟩
    have HB2 := Lib.hid ((HB1.out.alloc HB1.out.size _).trans (hb.mono (by have := HB1.out.size; simp; omega)))
    have HA3 := Lib.hid ((HA2.out.below ((Below.refl _ _).alloc (Nat.le_refl _) _) (Nat.le_refl _)).below hb (Nat.le_refl _))
    clear hb HA2
    have hM : val [854775807, 223372036, 9] = 9223372036854775807 := by decide
    rw [hM]
    by_cases hle : val ds ≤ 9223372036854775807
    · have hs : ¬ (0 : Int) < sgn (val ds) 9223372036854775807 := by unfold sgn; by_cases h1 : val ds < 9223372036854775807 <;> by_cases h2 : val ds = 9223372036854775807 <;> simp [h1, h2]; omega
      generalize sgn (val ds) 9223372036854775807 = s at *
      have HLE := Lib.hid hle
      clear hle hM
      go_wp2
      go_loop [4, 5] (fun s i => ∃ k v : Nat, k ≤ n ∧ i = .int .i64 ((k : Int) - 1) ∧ s = .int .i64 v ∧ v = val (ds.drop k)) (fun _ i => (intOf i + 1).toNat)
      case atStart => exact ⟨n, 0, Nat.le_refl _, by go_num, rfl, by rw [List.drop_of_length_le (by have := HL.out; omega)]; rfl⟩
      case round =>
        obtain ⟨k, v, hk, rfl, rfl, hv⟩ := hrel
        have HV := Lib.hid hv
        clear hv
        by_cases h0 : k = 0
        · subst h0
          go_wp2
          go_ret2
          have e : v = val ds := by simpa using HV.out
          have hf := HIF.out HLE.out
          exact ⟨ret_two (by rw [← HIY.out hf, e]) hf.symm, HB2.out⟩
        · obtain ⟨i, rfl⟩ : ∃ i, k = i + 1 := ⟨k - 1, by omega⟩
          have hwi : ((i + 1 : Nat) : Int) - 1 = (i : Int) := by omega
          rw [hwi]
          clear hwi
          obtain ⟨g, o, rfl, hg, hc⟩ := HA3.out.at_ (show i < n by omega)
          rw [nats_get] at hc
          have hix : i < ds.length := by have := HL.out; omega
          have hds := val_drop_succ ds i hix
          have hle := val_drop_le ds i
          have hin : i < n := by omega
          have hinZ : (i : Int) < (n : Int) := by omega
          obtain ⟨x, hx⟩ : ∃ x, ds[i] = x := ⟨_, rfl⟩
          rw [hx] at hc hds
          rw [← HV.out] at hds
          have hbd : v * 1000000000 + x ≤ 9223372036854775807 := by have := HLE.out; omega
          have HDS := Lib.hid hds
          clear hx hds hle
          go_wp2
          exact ⟨⟨i, v * 1000000000 + x, by omega, by go_num, by go_num, by have := HDS.out; omega⟩, by simp [intOf]⟩
    · have hs : sgn (val ds) 9223372036854775807 = 1 := sgn_gt (by omega)
      rw [hs]
      have HLE := Lib.hid hle
      clear hle hM hs
      go_wp2
      go_ret2
      have hf := HIN.out HLE.out
      exact ⟨ret_two (HI0.out hf) hf.symm, HB2.out⟩
end Go.Proofs.Ytdilbhkdkppodaa
