/- The library's slices.Index over rows of integers. Conditions: none. -/
import Derived.Test.YtgmgdbnfmlmicaaProg
import Derived.Test.YtgmgdbnfmlmicaaHeightMath
namespace Go.Proofs.Ytgmgdbnfmlmicaa
open Go.RowKit
set_option linter.unusedVariables false

/-- Where an integer stands first; -1 where it does not. -/
def idxI (zs : List Int) (x : Int) : Int := match zs.findIdx? (fun y => y == x) with | none => -1 | some k => (k : Int)
set_option maxRecDepth 100000 in
set_option maxHeartbeats 1000000 in
theorem indexInts_f (A : Option Addr) (n c : Nat) (zs : List Int) (x : Int) (w : World) (hA : VRow w A n (ints zs)) (hn : n ≤ 1099511627776) :
    Calls Try.prog 9 #[.slice A n c, .int .i64 x] w fun e w' => e = .returned (.int .i64 (idxI zs x)) ∧ w' = w := by
  have HL := Lib.hid (show zs.length = n by simpa [ints] using hA.1)
  go_enter Try.func9, Try.ntmps9
  go_wp2
  go_loop [8] (fun i => ∃ k : Nat, k ≤ n ∧ i = .int .i64 k ∧ ∀ j, j < k → zs.getD j 0 ≠ x) (fun i => n - (intOf i).toNat)
  case atStart => exact ⟨0, Nat.zero_le _, rfl, fun j h => absurd h (Nat.not_lt_zero j)⟩
  case round =>
    obtain ⟨k, hk, rfl, hall⟩ := hrel
    have HALL := Lib.hid hall
    clear hall
    by_cases hlt : k < n
    · obtain ⟨g, o, rfl, hg, hc⟩ := hA.at_ hlt
      have hkx : k < zs.length := by have := HL.out; omega
      rw [ints_get] at hc
      obtain ⟨y, hy⟩ : ∃ y, zs[k] = y := ⟨_, rfl⟩
      rw [hy] at hc
      have HY := Lib.hid hy
      clear hy
      by_cases he : x = y
      · subst he
        go_wp2
        go_ret
        refine ⟨ret_int ?_, rfl⟩
        unfold idxI
        rw [find_skip hkx HALL.out (by rw [← HY.out]; simp [hkx])]
      · have hb : (x == y) = false := by simpa using he
        go_wp2
        go_round
        case rel =>
          refine ⟨k + 1, by omega, by go_num, fun j hj => ?_⟩
          by_cases hjk : j < k
          · exact HALL.out j hjk
          · obtain rfl : j = k := by omega
            have := HY.out
            simp [hkx]; omega
        case measure => simp [intOf]; omega
    · obtain rfl : k = n := by omega
      go_wp2
      go_ret
      refine ⟨ret_int ?_, rfl⟩
      unfold idxI
      rw [find_none (fun j hj => HALL.out j (by have := HL.out; omega))]
end Go.Proofs.Ytgmgdbnfmlmicaa
