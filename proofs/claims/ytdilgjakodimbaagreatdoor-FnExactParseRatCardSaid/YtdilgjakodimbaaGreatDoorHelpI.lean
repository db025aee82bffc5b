/- Contracts of the laws' own helpers over integers: toIntS, eqIntS, markIntS, heldIntS. Conditions: none. -/
import Derived.Test.YtdilgjakodimbaaGreatDoorProg
import Derived.Test.YtdilgjakodimbaaGreatDoorOwn
namespace Go.Proofs.YtdilgjakodimbaaGreatDoor
open Go.RowKit
set_option linter.unusedVariables false

theorem info_int : (Tryz.prog.info? 3).map (fun i => (i.zero, i.size, i.bytes)) = some (some (.int .i64 0), 1, 8) := by kernel_rfl
/-- The marks k, k + 1, .. of n integers. -/
def marksI (k n : Nat) : List Value := (List.range n).map fun i => Value.int .i64 ((k + i : Nat) : Int)
theorem marksI_len (k n : Nat) : (marksI k n).length = n := by simp [marksI]

set_option maxRecDepth 100000 in
set_option maxHeartbeats 400000 in
theorem eqIntS_same (A B : Option Addr) (n c d : Nat) (xs : List Int) (w : World) (hA : VRow w A n (ints xs)) (hB : VRow w B n (ints xs)) (hn : n ≤ maxLen) :
    Calls Tryz.prog 20 #[.slice A n c, .slice B n d] w fun e w' => e = .returned (.bool true) ∧ Below w.heap.size w w' := by
  unfold maxLen at hn
  have hl : xs.length = n := by simpa [ints] using hA.1
  have HL := Lib.hid hl
  clear hl
  go_enter Tryz.func20, Tryz.ntmps20
  go_wp2
  go_loopw [5] (fun i wr => ∃ k q : Nat, k ≤ n ∧ i = .int .i64 k ∧ wr = w.drewN q) (fun i _ => n - (intOf i).toNat)
  case atStart => exact ⟨0, 0, Nat.zero_le _, rfl, rfl⟩
  case round =>
    obtain ⟨k, q, hk, rfl, rfl⟩ := hrel
    by_cases hlt : k < n
    · obtain ⟨g, o, rfl, hg, hc⟩ := hA.at_ hlt
      obtain ⟨g', o', rfl, hg', hc'⟩ := hB.at_ hlt
      rw [ints_get] at hc hc'
      go_wp2
      go_quiet (fail)
      go_wp2
      exact ⟨⟨k + 1, q + nq, by omega, by go_num, rfl⟩, by simp [intOf]; omega⟩
    · go_wp2
      go_ret
      exact ⟨rfl, below_drewN (Below.refl _ _) q⟩
set_option maxRecDepth 100000 in
set_option maxHeartbeats 400000 in
theorem markIntS_at (A : Option Addr) (n c k base : Nat) (K : Int) (hK : K = (k : Int)) (xs : List Value) (w : World) (hown : OwnV w base 3 (.slice A n c) xs) (hn : k + n ≤ 1099511627776) :
    Calls Tryz.prog 22 #[.slice A n c, .int .i64 K] w fun e w' => e = .returned (.int .i64 (k + n : Nat)) ∧ OwnV w' base 3 (.slice A n c) (marksI k n) ∧ w.grownBy w' (Value.slice A n c).ownBlock := by
  subst hK
  have HL := Lib.hid hown.len
  go_enter Tryz.func22, Tryz.ntmps22
  go_wp2
  go_loopw [1, 5] (fun kk i wr => ∃ j : Nat, j ≤ n ∧ i = .int .i64 j ∧ kk = .int .i64 (k + j : Nat) ∧ OwnV wr base 3 (.slice A n c) (marksI k j ++ xs.drop j) ∧ w.grownBy wr (Value.slice A n c).ownBlock) (fun _ i _ => n - (intOf i).toNat)
  case atStart => exact ⟨0, Nat.zero_le _, rfl, rfl, by simpa [marksI] using hown, World.grownBy.refl _ _⟩
  case round =>
    obtain ⟨j, hj, rfl, rfl, ho, hg⟩ := hrel
    have HO := Lib.hid ho
    have HG := Lib.hid hg
    clear ho hg
    by_cases hlt : j < n
    · obtain ⟨g, hA, hgs, hgb, hc, hf, hset⟩ := HO.out.spot hlt
      subst hA
      have HS := Lib.hid (hset (Value.int .i64 ((k + j : Nat) : Int)))
      clear hset
      go_wp2
      refine ⟨⟨j + 1, by omega, by go_num, by go_num, ?_, grown_grown HG.out HS.out.2⟩, by simp [intOf]; omega⟩
      have hs := set_step (fun i => Value.int .i64 ((k + i : Nat) : Int)) xs j (by have := HL.out; omega)
      have := HS.out.1
      unfold marksI at this ⊢
      rwa [hs] at this
    · go_wp2
      go_ret
      obtain rfl : j = n := by omega
      refine ⟨rfl, ?_, HG.out⟩
      have := HO.out
      rwa [List.drop_of_length_le (by have := HL.out; omega), List.append_nil] at this

set_option maxRecDepth 100000 in
set_option maxHeartbeats 400000 in
theorem heldIntS_at (A : Option Addr) (n c k : Nat) (K : Int) (hK : K = (k : Int)) (w : World) (hA : VRow w A n (marksI k n)) (hn : k + n ≤ 1099511627776) :
    Calls Tryz.prog 24 #[.slice A n c, .int .i64 K] w fun e w' => e = .returned (.int .i64 (k + n : Nat)) ∧ Below w.heap.size w w' := by
  subst hK
  go_enter Tryz.func24, Tryz.ntmps24
  go_wp2
  go_loopw [1, 5] (fun kk i wr => ∃ j q : Nat, j ≤ n ∧ i = .int .i64 j ∧ kk = .int .i64 (k + j : Nat) ∧ wr = w.drewN q) (fun _ i _ => n - (intOf i).toNat)
  case atStart => exact ⟨0, 0, Nat.zero_le _, rfl, rfl, rfl⟩
  case round =>
    obtain ⟨j, q, hj, rfl, rfl, rfl⟩ := hrel
    by_cases hlt : j < n
    · obtain ⟨g, o, rfl, hg, hc⟩ := hA.at_ hlt
      have hc' : w.cell? ⟨g, o + j, none⟩ = some (Value.int .i64 ((k + j : Nat) : Int)) := by rw [hc]; simp [marksI]
      clear hc
      go_wp2
      try go_quiet (fail)
      go_wp2
      exact ⟨⟨j + 1, _, by omega, by go_num, by go_num, rfl⟩, by simp [intOf]; omega⟩
    · go_wp2
      go_ret
      obtain rfl : j = n := by omega
      exact ⟨rfl, below_drewN (Below.refl _ _) q⟩
end Go.Proofs.YtdilgjakodimbaaGreatDoor
