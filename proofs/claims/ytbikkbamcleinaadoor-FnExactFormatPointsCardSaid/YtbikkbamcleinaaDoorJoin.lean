/- The contract of spec.Join. Conditions: at most 2^20 strings of at most 2^20 bytes together, a separator of at most 2^20 bytes. -/
import Derived.Test.YtbikkbamcleinaaDoorHelpS2
namespace Go.Proofs.YtbikkbamcleinaaDoor
open Go.RowKit Jn
set_option linter.unusedVariables false

theorem join_bound (b : ByteArray) (xs : List ByteArray) (n j : Nat) (hl : xs.length = n) (hb : b.size ≤ 1048576) (ht : n + total xs ≤ 1048576) : (joinL b (xs.take j)).length ≤ 1099512676352 := by
  have h1 := joinL_len b (xs.take j)
  have h2 := total_take_le xs j
  have h3 : (xs.take j).length ≤ 1048576 := by simp; omega
  have h4 : (xs.take j).length * b.size ≤ 1048576 * 1048576 := Nat.mul_le_mul h3 hb
  omega
theorem join_app (a : List UInt8) (b : ByteArray) : (⟨a.toArray⟩ : ByteArray) ++ b = ⟨(a ++ b.data.toList).toArray⟩ := by
  apply bytes_ext
  rw [app_data]
theorem join_size (a : List UInt8) : (⟨a.toArray⟩ : ByteArray).size = a.length := by
  show a.toArray.size = _
  simp

set_option maxHeartbeats 1000000 in
theorem join_spec (A : Option Addr) (n c : Nat) (b : ByteArray) (xs : List ByteArray) (w : World) (hA : VRow w A n (xs.map .string)) (hb : b.size ≤ 1048576) (ht : n + total xs ≤ 1048576) :
    Calls Tryd.prog 13 #[.slice A n c, .string b] w fun e w' => e = .returned (.string (join b xs)) ∧ w = w' := by
  have HL := Lib.hid (show xs.length = n by simpa using hA.1)
  have hn : n ≤ 1048576 := by omega
  go_enter Tryd.func13, Tryd.ntmps13
  go_wp2
  go_loop [5, 10] (fun s i => ∃ (j : Nat) (t : ByteArray), j ≤ n ∧ i = .int .i64 j ∧ s = .string t ∧ t = ⟨(joinL b (xs.take j)).toArray⟩) (fun _ i => n - (intOf i).toNat)
  case atStart => exact ⟨0, _, Nat.zero_le _, rfl, rfl, by simp [joinL]⟩
  case round =>
    obtain ⟨j, t, hj, rfl, rfl, hte⟩ := hrel
    have hts : t.size ≤ 1099512676352 := by rw [hte, join_size]; exact join_bound b xs n j HL.out hb ht
    have HT := Lib.hid hte
    clear hte
    by_cases hlt : j < n
    · obtain ⟨g, o, rfl, hg, hc⟩ := hA.at_ hlt
      have hjx : j < xs.length := by have := HL.out; omega
      simp only [List.getElem_map] at hc
      have hxs : xs[j].size ≤ 1048576 := by
        have h1 := total_take_le xs (j + 1)
        rw [take_snocB xs j hjx, total_snoc] at h1
        omega
      obtain ⟨x, hx⟩ : ∃ x, xs[j] = x := ⟨_, rfl⟩
      rw [hx] at hc hxs
      have HS := Lib.hid (show xs.take (j + 1) = xs.take j ++ [x] by rw [take_snocB xs j hjx, hx])
      clear hx
      by_cases h0 : j = 0
      · subst h0
        simp only [Nat.add_zero] at hc
        go_wp2
        refine ⟨⟨1, _, by omega, by go_num, rfl, ?_⟩, by simp [intOf]; omega⟩
        rw [HT.out, HS.out, join_app]
        simp [joinL]
      · go_wp2
        refine ⟨⟨j + 1, _, by omega, by go_num, rfl, ?_⟩, by simp [intOf]; omega⟩
        rw [HT.out, HS.out, joinL_snoc b _ _ (by intro e; have h := congrArg List.length e; rw [List.length_take, List.length_nil] at h; omega), join_app, join_app, List.append_assoc]
    · go_wp2
      go_ret
      refine ⟨ret_str ?_, rfl⟩
      rw [HT.out, List.take_of_length_le (by have := HL.out; omega)]
      rfl
end Go.Proofs.YtbikkbamcleinaaDoor
