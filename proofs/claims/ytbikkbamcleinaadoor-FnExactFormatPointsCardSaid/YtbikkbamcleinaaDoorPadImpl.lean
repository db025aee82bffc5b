/- The contract of impl.PadZeros. Condition: the string is at most 2^20 bytes long. -/
import Derived.Test.YtbikkbamcleinaaDoorJoinImpl
import Derived.Test.YtbikkbamcleinaaDoorPad
namespace Go.Proofs.YtbikkbamcleinaaDoor
open Go.RowKit Jn
set_option linter.unusedVariables false

theorem zeros_lib (k : Nat) : Lib.repeatL [48] k = List.replicate k 48 := by
  induction k with
  | zero => rfl
  | succ k ih => rw [Lib.repeatL, ih, List.replicate_succ]; rfl
theorem repeat_at (n : Int) (k : Nat) (hk : n = (k : Int)) (hn : k ≤ 2000) (w : World) :
    Calls Tryd.prog 63 #[.string ⟨#[48]⟩, .int .i64 n] w fun e w' => e = .returned (.string ⟨(List.replicate k 48).toArray⟩) ∧ Below w.heap.size w w' := by
  subst hk
  have h := Tryd.strings_Repeat ⟨#[48]⟩ k w (by omega) (by show 1 * k ≤ _; omega)
  rw [show (⟨#[48]⟩ : ByteArray).data.toList = [48] from rfl, zeros_lib] at h
  exact h

set_option maxHeartbeats 1000000 in
theorem padZeros_impl (s : ByteArray) (n : Int) (w : World) (hs : s.size ≤ 1048576) (hn1 : -9223372036854775808 ≤ n) (hn2 : n ≤ 9223372036854775807) :
    Calls Tryd.prog 48 #[.string s, .int .i64 n] w fun e w' => e = .returned (.string (padz s n)) ∧ Below w.heap.size w w' := by
  by_cases h1 : n ≤ s.size
  · have HP := Lib.hid (padz_id s n (Or.inr h1))
    go_enter Tryd.func48, Tryd.ntmps48
    go_wp2
    go_ret
    exact ⟨ret_str HP.out.symm, Below.refl _ _⟩
  · have h1' : decide (n ≤ (s.size : Int)) = false := decide_eq_false h1
    by_cases h2 : 2000 < n
    · have HP := Lib.hid (padz_id s n (Or.inl h2))
      go_enter Tryd.func48, Tryd.ntmps48
      go_wp2
      go_ret
      exact ⟨ret_str HP.out.symm, Below.refl _ _⟩
    · obtain ⟨k, hk⟩ : ∃ k : Nat, n - s.size = k := ⟨(n - s.size).toNat, by omega⟩
      have HK := Lib.hid hk
      have hk2 : k ≤ 2000 := by omega
      clear hk
      go_enter Tryd.func48, Tryd.ntmps48
      go_wp2_with fail
      refine (repeat_at _ k HK.out hk2 _).mono ?_
      rintro e w1 ⟨rfl, hb1⟩
      have HB1 := Lib.hid hb1
      clear hb1
      go_wp2_with fail
      have hsz : (⟨(List.replicate k (48 : UInt8)).toArray⟩ : ByteArray).size = k := by rw [join_size]; simp
      have htot : total [⟨(List.replicate k 48).toArray⟩, s] = k + s.size := by
        show (⟨(List.replicate k (48 : UInt8)).toArray⟩ : ByteArray).size + (s.size + 0) = _
        rw [hsz]; omega
      refine (joinAll_any _ 2 2 ⟨#[]⟩ [⟨(List.replicate k 48).toArray⟩, s] _ ?_ (Nat.le_refl _) (by decide) (by rw [htot]; omega) (by omega)).mono ?_
      · refine ⟨rfl, fun _ => ⟨w1.heap.size, 0, rfl, by simp, fun j hj => ?_⟩⟩
        match j, hj with
        | 0, _ => simp
        | 1, _ => simp
      rintro e w2 ⟨rfl, hb2⟩
      have HB2 := Lib.hid hb2
      clear hb2
      go_wp2
      go_ret
      refine ⟨ret_str ?_, ?_⟩
      · unfold padz join
        rw [if_neg (by omega), show (n - s.size).toNat = k by have := HK.out; omega]
        simp [joinL]
      · have hb := HB1.out.alloc HB1.out.size (.cells #[.string ⟨(List.replicate k 48).toArray⟩, .string s] 9)
        exact hb.trans (HB2.out.mono hb.size)
end Go.Proofs.YtbikkbamcleinaaDoor
