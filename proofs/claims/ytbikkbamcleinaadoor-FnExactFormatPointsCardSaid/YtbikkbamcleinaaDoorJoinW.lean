/- Joining long words: the contracts of spec.Join and impl.Join once more, at wider bounds. Conditions: at most 2^20 strings of at most 2^42 bytes together, a separator of at most 2^20 bytes. -/
import Derived.Test.YtbikkbamcleinaaDoorJoinImpl
namespace Go.Proofs.YtbikkbamcleinaaDoor
open Go.RowKit Jn
set_option linter.unusedVariables false

theorem join_boundW (b : ByteArray) (xs : List ByteArray) (n j : Nat) (hl : xs.length = n) (hn : n ≤ 1048576) (hb : b.size ≤ 1048576) (ht : total xs ≤ 4398046511104) : (joinL b (xs.take j)).length ≤ 5497558138880 := by
  have h1 := joinL_len b (xs.take j)
  have h2 := total_take_le xs j
  have h3 : (xs.take j).length ≤ 1048576 := by simp; omega
  have h4 : (xs.take j).length * b.size ≤ 1048576 * 1048576 := Nat.mul_le_mul h3 hb
  omega
set_option maxHeartbeats 1000000 in
theorem join_specW (A : Option Addr) (n c : Nat) (b : ByteArray) (xs : List ByteArray) (w : World) (hA : VRow w A n (xs.map .string)) (hb : b.size ≤ 1048576) (hn : n ≤ 1048576) (ht : total xs ≤ 4398046511104) :
    Calls Tryd.prog 13 #[.slice A n c, .string b] w fun e w' => e = .returned (.string (join b xs)) ∧ w = w' := by
  have HL := Lib.hid (show xs.length = n by simpa using hA.1)
  go_enter Tryd.func13, Tryd.ntmps13
  go_wp2
  go_loop [5, 10] (fun s i => ∃ (j : Nat) (t : ByteArray), j ≤ n ∧ i = .int .i64 j ∧ s = .string t ∧ t = ⟨(joinL b (xs.take j)).toArray⟩) (fun _ i => n - (intOf i).toNat)
  case atStart => exact ⟨0, _, Nat.zero_le _, rfl, rfl, by simp [joinL]⟩
  case round =>
    obtain ⟨j, t, hj, rfl, rfl, hte⟩ := hrel
    have hts : t.size ≤ 5497558138880 := by rw [hte, join_size]; exact join_boundW b xs n j HL.out hn hb ht
    have HT := Lib.hid hte
    clear hte
    by_cases hlt : j < n
    · obtain ⟨g, o, rfl, hg, hc⟩ := hA.at_ hlt
      have hjx : j < xs.length := by have := HL.out; omega
      simp only [List.getElem_map] at hc
      have hxs : xs[j].size ≤ 4398046511104 := by
        have h1 := total_take_le xs (j + 1)
        rw [take_snocB xs j hjx, total_snoc] at h1
        omega
      obtain ⟨x, hx⟩ : ∃ x, xs[j] = x := ⟨_, rfl⟩
      rw [hx] at hc hxs
      have HS := Lib.hid (show xs.take (j + 1) = xs.take j ++ [x] by rw [take_snocB xs j hjx, hx])
      clear hx
      by_cases h0 : j = 0
      · subst h0
        simp only [Nat.add_zero] at hc
        go_wp2
        refine ⟨⟨1, _, by omega, by go_num, rfl, ?_⟩, by simp [intOf]; omega⟩
        rw [HT.out, HS.out, join_app]
        simp [joinL]
      · go_wp2
        refine ⟨⟨j + 1, _, by omega, by go_num, rfl, ?_⟩, by simp [intOf]; omega⟩
        rw [HT.out, HS.out, joinL_snoc b _ _ (by intro e; have h := congrArg List.length e; rw [List.length_take, List.length_nil] at h; omega), join_app, join_app, List.append_assoc]
    · go_wp2
      go_ret
      refine ⟨ret_str ?_, rfl⟩
      rw [HT.out, List.take_of_length_le (by have := HL.out; omega)]
      rfl
theorem libJoin_W (A : Option Addr) (n c : Nat) (b : ByteArray) (xs : List ByteArray) (w : World) (hA : VRow w A n (xs.map .string)) (hc : n ≤ c) (hb : b.size ≤ 1048576) (ht : total xs ≤ 4398046511104) (hn : n ≤ 1048576) :
    Calls Tryd.prog 30 #[.slice A n c, .string b] w fun e w' => e = .returned (.string (join b xs)) ∧ Below w.heap.size w w' := by
  have hl : xs.length = n := by simpa using hA.1
  by_cases h0 : n = 0
  · subst h0
    obtain rfl : xs = [] := List.eq_nil_of_length_eq_zero hl
    refine (Tryd.strings_Join_none A c b w).mono fun e w' ⟨he, hw⟩ => ⟨by rw [he]; rfl, hw ▸ Below.refl _ _⟩
  · obtain ⟨g, o, rfl, hg, hcell⟩ := hA.2 (by omega)
    subst hl
    have hlen : (joinL b xs).length ≤ 140737488355328 := by
      have h1 := joinL_len b xs
      have h4 : xs.length * b.size ≤ 1048576 * 1048576 := Nat.mul_le_mul hn hb
      omega
    have h := Tryd.strings_Join g o c xs b w (fun j x hj => by
      have hjl : j < xs.length := (List.getElem?_eq_some_iff.1 hj).1
      rw [hcell j hjl]
      simp [hj]) hg (by omega) hc (by rw [joinL_lib]; exact hlen)
    rw [joinL_lib] at h
    exact h
set_option maxHeartbeats 400000 in
theorem joinAll_W (A : Option Addr) (n c : Nat) (b : ByteArray) (xs : List ByteArray) (w : World) (hA : VRow w A n (xs.map .string)) (hc : n ≤ c) (hb : b.size ≤ 1048576) (ht : total xs ≤ 4398046511104) (hn : n ≤ 1048576) :
    Calls Tryd.prog 16 #[.string b, .slice A n c] w fun e w' => e = .returned (.string (join b xs)) ∧ Below w.heap.size w w' := by
  have HA := Lib.hid hA
  clear hA
  go_enter Tryd.func16, Tryd.ntmps16
  go_wp2_with fail
  refine (libJoin_W A n c b xs w HA.out hc hb ht hn).mono ?_
  rintro e w' ⟨rfl, hbel⟩
  go_wp2
  go_ret
  exact ⟨rfl, hbel⟩
set_option maxHeartbeats 400000 in
theorem join_implW (A : Option Addr) (n c : Nat) (b : ByteArray) (xs : List ByteArray) (w : World) (hA : VRow w A n (xs.map .string)) (hc : n ≤ c) (hb : b.size ≤ 1048576) (ht : total xs ≤ 4398046511104) (hn : n ≤ 1048576) :
    Calls Tryd.prog 18 #[.slice A n c, .string b] w fun e w' => e = .returned (.string (join b xs)) ∧ Below w.heap.size w w' := by
  have HA := Lib.hid hA
  clear hA
  go_enter Tryd.func18, Tryd.ntmps18
  go_wp2_with fail
  refine (joinAll_W A n c b xs w HA.out hc hb ht hn).mono ?_
  rintro e w' ⟨rfl, hbel⟩
  go_wp2
  go_ret
  exact ⟨rfl, hbel⟩
end Go.Proofs.YtbikkbamcleinaaDoor
