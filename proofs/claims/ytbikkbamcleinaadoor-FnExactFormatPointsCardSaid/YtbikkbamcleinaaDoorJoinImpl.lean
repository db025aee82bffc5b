/- Contracts of impl.joinAll, impl.Join and impl.PadZeros. Conditions: at most 2^20 strings of at most 2^20 bytes together, a separator of at most 2^20 bytes. -/
import Derived.Test.YtbikkbamcleinaaDoorJoin
import Derived.Test.YtbikkbamcleinaaDoorShelf
namespace Go.Proofs.YtbikkbamcleinaaDoor
open Go.RowKit Jn
set_option linter.unusedVariables false

theorem joinL_lib (b : ByteArray) (xs : List ByteArray) : Lib.join (xs.map (·.data.toList)) b.data.toList = joinL b xs := by
  induction xs with
  | nil => rfl
  | cons x r ih =>
    cases r with
    | nil => simp [joinL, Lib.join_one]
    | cons y r =>
      rw [List.map_cons, Lib.join_cons]
      rw [List.map_cons, Lib.join_cons] at ih
      simp only [joinL, List.map_cons, Lib.joinTail, List.flatten_cons, List.append_assoc]
      simp only [Lib.joinTail] at ih
      rw [← ih]

theorem libJoin_any (A : Option Addr) (n c : Nat) (b : ByteArray) (xs : List ByteArray) (w : World) (hA : VRow w A n (xs.map .string)) (hc : n ≤ c) (hb : b.size ≤ 1048576) (ht : n + total xs ≤ 1050624) (hn : n ≤ 1048576) :
    Calls Tryd.prog 30 #[.slice A n c, .string b] w fun e w' => e = .returned (.string (join b xs)) ∧ Below w.heap.size w w' := by
  have hl : xs.length = n := by simpa using hA.1
  by_cases h0 : n = 0
  · subst h0
    obtain rfl : xs = [] := List.eq_nil_of_length_eq_zero hl
    refine (Tryd.strings_Join_none A c b w).mono fun e w' ⟨he, hw⟩ => ⟨by rw [he]; rfl, hw ▸ Below.refl _ _⟩
  · obtain ⟨g, o, rfl, hg, hcell⟩ := hA.2 (by omega)
    subst hl
    have hlen : (joinL b xs).length ≤ 140737488355328 := by
      have h1 := joinL_len b xs
      have h4 : xs.length * b.size ≤ 1048576 * 1048576 := Nat.mul_le_mul hn hb
      omega
    have h := Tryd.strings_Join g o c xs b w (fun j x hj => by
      have hjl : j < xs.length := (List.getElem?_eq_some_iff.1 hj).1
      rw [hcell j hjl]
      simp [hj]) hg (by omega) hc (by rw [joinL_lib]; exact hlen)
    rw [joinL_lib] at h
    exact h

set_option maxHeartbeats 400000 in
theorem joinAll_any (A : Option Addr) (n c : Nat) (b : ByteArray) (xs : List ByteArray) (w : World) (hA : VRow w A n (xs.map .string)) (hc : n ≤ c) (hb : b.size ≤ 1048576) (ht : n + total xs ≤ 1050624) (hn : n ≤ 1048576) :
    Calls Tryd.prog 16 #[.string b, .slice A n c] w fun e w' => e = .returned (.string (join b xs)) ∧ Below w.heap.size w w' := by
  have HA := Lib.hid hA
  clear hA
  go_enter Tryd.func16, Tryd.ntmps16
  go_wp2_with fail
  refine (libJoin_any A n c b xs w HA.out hc hb ht hn).mono ?_
  rintro e w' ⟨rfl, hbel⟩
  go_wp2
  go_ret
  exact ⟨rfl, hbel⟩
set_option maxHeartbeats 400000 in
theorem join_impl (A : Option Addr) (n c : Nat) (b : ByteArray) (xs : List ByteArray) (w : World) (hA : VRow w A n (xs.map .string)) (hc : n ≤ c) (hb : b.size ≤ 1048576) (ht : n + total xs ≤ 1050624) (hn : n ≤ 1048576) :
    Calls Tryd.prog 18 #[.slice A n c, .string b] w fun e w' => e = .returned (.string (join b xs)) ∧ Below w.heap.size w w' := by
  have HA := Lib.hid hA
  clear hA
  go_enter Tryd.func18, Tryd.ntmps18
  go_wp2_with fail
  refine (joinAll_any A n c b xs w HA.out hc hb ht hn).mono ?_
  rintro e w' ⟨rfl, hbel⟩
  go_wp2
  go_ret
  exact ⟨rfl, hbel⟩

end Go.Proofs.YtbikkbamcleinaaDoor
