/- Contracts of the functions that cut the zeros off the high end of a row of limbs: l02Trim of the model, trimmed of the program. Conditions: none. -/
import Derived.Test.YtdilbhkdkppodaaProg
import Derived.Test.YtdilbhkdkppodaaOwn
import Derived.Test.YtdilbhkdkppodaaNatMath
namespace Go.Proofs.Ytdilbhkdkppodaa
open Go.RowKit Nt
set_option linter.unusedVariables false

set_option maxRecDepth 100000 in
set_option maxHeartbeats 1000000 in
theorem l02Trim_any (A : Option Addr) (n c : Nat) (ds : List Nat) (w : World) (hA : VRow w A n (nats ds)) (hd : Digs ds) (hnc : n ≤ c) (hc : c ≤ maxLen) (hnil : A = none → c = 0) :
    Calls Try.prog 81 #[.slice A n c] w fun e w' => e = .returned (.slice A (dig (val ds)).length c) ∧ w' = w := by
  unfold maxLen at hc
  have HL := Lib.hid (show ds.length = n by simpa [nats_len] using hA.1)
  have HD := Lib.hid hd
  clear hd
  go_enter Try.func81, Try.ntmps81
  go_wp2
  go_loop [3] (fun i => ∃ k : Nat, k ≤ n ∧ i = .int .i64 k ∧ val (ds.take k) = val ds) (fun i => (intOf i).toNat)
  case atStart => exact ⟨n, Nat.le_refl _, rfl, by rw [List.take_of_length_le (by have := HL.out; omega)]⟩
  case round =>
    obtain ⟨k, hk, rfl, hv⟩ := hrel
    have HV := Lib.hid hv
    clear hv
    by_cases h0 : k = 0
    · subst h0
      have e := trim_at HD.out 0 (Nat.zero_le _) HV.out (.inl rfl)
      have el : 0 = (dig (val ds)).length := by rw [← e]; rfl
      have HEL := Lib.hid el
      clear e el
      cases A with
      | none =>
        have hc0 := hnil rfl
        subst hc0
        obtain rfl : n = 0 := by omega
        go_wp2
        go_ret
        rw [← HEL.out]
        exact ⟨rfl, rfl⟩
      | some a =>
        clear hnil
        go_wp2
        go_ret
        rw [← HEL.out]
        exact ⟨rfl, rfl⟩
    · obtain ⟨g, o, rfl, hg, hc⟩ := hA.at_ (show k - 1 < n by omega)
      rw [nats_get] at hc
      have hkx : k - 1 < ds.length := by have := HL.out; omega
      obtain ⟨x, hx⟩ : ∃ x, ds[k - 1] = x := ⟨_, rfl⟩
      rw [hx] at hc
      have HX := Lib.hid hx
      clear hx hnil
      have hsub : IntKind.i64.wrap ((k : Int) - 1) = ((k - 1 : Nat) : Int) := by rw [IntKind.wrap_i64]; omega
      by_cases hx0 : x = 0
      · subst hx0
        go_wp2
        refine ⟨⟨k - 1, by omega, by go_num, ?_⟩, by simp [intOf]; omega⟩
        have h1 := trim_step (ds := ds) (k - 1) (by omega) (by have := HX.out; simpa [hkx] using this)
        rw [← HV.out, ← h1]
        congr 2
        omega
      · have e := trim_at HD.out k (by have := HL.out; omega) HV.out (.inr (by have := HX.out; simpa [hkx, this] using hx0))
        have el : k = (dig (val ds)).length := by rw [← e, List.length_take]; have := HL.out; omega
        have HEL := Lib.hid el
        clear e el
        go_wp2
        go_ret
        rw [← HEL.out]
        exact ⟨rfl, rfl⟩
set_option maxRecDepth 100000 in
set_option maxHeartbeats 1000000 in
theorem trimmed_any (A : Option Addr) (n c : Nat) (ds : List Nat) (w : World) (hA : VRow w A n (nats ds)) (hd : Digs ds) (hnc : n ≤ c) (hc : c ≤ maxLen) (hnil : A = none → c = 0) :
    Calls Try.prog 101 #[.slice A n c] w fun e w' => e = .returned (.slice A (dig (val ds)).length (dig (val ds)).length) ∧ w' = w := by
  unfold maxLen at hc
  have HL := Lib.hid (show ds.length = n by simpa [nats_len] using hA.1)
  have HD := Lib.hid hd
  clear hd
  go_enter Try.func101, Try.ntmps101
  go_wp2
  go_loop [3] (fun i => ∃ k : Nat, k ≤ n ∧ i = .int .i64 k ∧ val (ds.take k) = val ds) (fun i => (intOf i).toNat)
  case atStart => exact ⟨n, Nat.le_refl _, rfl, by rw [List.take_of_length_le (by have := HL.out; omega)]⟩
  case round =>
    obtain ⟨k, hk, rfl, hv⟩ := hrel
    have HV := Lib.hid hv
    clear hv
    by_cases h0 : k = 0
    · subst h0
      have e := trim_at HD.out 0 (Nat.zero_le _) HV.out (.inl rfl)
      have el : 0 = (dig (val ds)).length := by rw [← e]; rfl
      have HEL := Lib.hid el
      clear e el
      cases A with
      | none =>
        have hc0 := hnil rfl
        subst hc0
        obtain rfl : n = 0 := by omega
        go_wp2
        go_ret
        rw [← HEL.out]
        exact ⟨rfl, rfl⟩
      | some a =>
        clear hnil
        go_wp2
        go_ret
        rw [← HEL.out]
        exact ⟨rfl, rfl⟩
    · obtain ⟨g, o, rfl, hg, hc⟩ := hA.at_ (show k - 1 < n by omega)
      rw [nats_get] at hc
      have hkx : k - 1 < ds.length := by have := HL.out; omega
      obtain ⟨x, hx⟩ : ∃ x, ds[k - 1] = x := ⟨_, rfl⟩
      rw [hx] at hc
      have HX := Lib.hid hx
      clear hx hnil
      have hsub : IntKind.i64.wrap ((k : Int) - 1) = ((k - 1 : Nat) : Int) := by rw [IntKind.wrap_i64]; omega
      by_cases hx0 : x = 0
      · subst hx0
        go_wp2
        refine ⟨⟨k - 1, by omega, by go_num, ?_⟩, by simp [intOf]; omega⟩
        have h1 := trim_step (ds := ds) (k - 1) (by omega) (by have := HX.out; simpa [hkx] using this)
        rw [← HV.out, ← h1]
        congr 2
        omega
      · have e := trim_at HD.out k (by have := HL.out; omega) HV.out (.inr (by have := HX.out; simpa [hkx, this] using hx0))
        have el : k = (dig (val ds)).length := by rw [← e, List.length_take]; have := HL.out; omega
        have HEL := Lib.hid el
        clear e el
        go_wp2
        go_ret
        rw [← HEL.out]
        exact ⟨rfl, rfl⟩
end Go.Proofs.Ytdilbhkdkppodaa
