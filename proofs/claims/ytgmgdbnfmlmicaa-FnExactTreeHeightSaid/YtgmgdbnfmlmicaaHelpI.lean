/- Contracts of the laws' own helpers over integers: toIntS, eqIntS, markIntS, heldIntS. Conditions: none. -/
import Derived.Test.YtgmgdbnfmlmicaaProg
import Derived.Test.YtgmgdbnfmlmicaaOwn
namespace Go.Proofs.Ytgmgdbnfmlmicaa
open Go.RowKit
set_option linter.unusedVariables false

theorem info_int : (Try.prog.info? 3).map (fun i => (i.zero, i.size, i.bytes)) = some (some (.int .i64 0), 1, 8) := by kernel_rfl
/-- The marks k, k + 1, .. of n integers. -/
def marksI (k n : Nat) : List Value := (List.range n).map fun i => Value.int .i64 ((k + i : Nat) : Int)
theorem marksI_len (k n : Nat) : (marksI k n).length = n := by simp [marksI]

set_option maxRecDepth 100000 in
set_option maxHeartbeats 1000000 in
theorem toIntS_any (A : Option Addr) (n c : Nat) (xs : List Int) (w : World) (hA : VRow w A n (ints xs)) (hn : n ≤ 1048576) :
    Calls Try.prog 5 #[.slice A n c] w (OwnR 3 (ints xs) w) := by
  obtain ⟨i0, hi, hz0, hz1, hz2⟩ := info_parts info_int
  have HL := Lib.hid (show xs.length = n by simpa [ints] using hA.1)
  go_enter Try.func5, Try.ntmps5
  go_wp2_with (at_make; refine wpList_make_full _ rfl _ _ _ rfl w.heap.size 3 i0 _ 1 Try.underlying22 hi hz0 hz1 .i64 .i64 _ _ n rfl rfl rfl rfl (by rw [hz2]; omega) (by unfold maxLen; omega) (Nat.le_refl _) ?_; intro w1 hown hgrow)
  obtain ⟨zs, hzs⟩ : ∃ zs, (madeCells (Value.int .i64 0).cells (n * 1)).toList = zs := ⟨_, rfl⟩
  rw [hzs] at hown
  have HZ := Lib.hid (show zs.length = n by simpa using hown.1)
  have HO := Lib.hid hown
  have HB := Lib.hid ((Below.refl w.heap.size w).grown hgrow (Nat.le_refl _) (by simp))
  clear hown hgrow hzs
  go_wp2
  go_loopw [4] (fun i wr => ∃ j : Nat, j ≤ n ∧ i = .int .i64 j ∧ wr.ownsRow w.heap.size 3 1 (.slice (some ⟨w.heap.size, 0, none⟩) n n) n ((List.range j).map (fun i => Value.int .i64 (xs.getD i 0)) ++ zs.drop j) ∧ Below w.heap.size w wr) (fun i _ => n - (intOf i).toNat)
  case atStart => exact ⟨0, Nat.zero_le _, rfl, by simpa using HO.out, HB.out⟩
  case round =>
    obtain ⟨j, hj, rfl, ho, hb⟩ := hrel
    have HO' := Lib.hid ho
    have HB' := Lib.hid hb
    clear ho hb
    by_cases hlt : j < n
    · obtain ⟨g, o, rfl, hg, hc⟩ := (hA.below HB'.out (Nat.le_refl _)).at_ hlt
      have hx : (ints xs)[j]'(by have := HL.out; simp [ints]; omega) = Value.int .i64 (xs.getD j 0) := by
        have := HL.out
        have hjx : j < xs.length := by omega
        simp [ints, hjx]
      rw [hx] at hc
      have hc2 : wr.cell? ⟨w.heap.size, j, none⟩ = some (((List.range j).map (fun i => Value.int .i64 (xs.getD i 0)) ++ zs.drop j)[j]'(by have := HZ.out; simp; omega)) := by
        rw [HO'.out.cellAt j (by omega)]; exact List.getElem?_eq_getElem _
      have hf : wr.frozen? ⟨w.heap.size, j, none⟩ = false := HO'.out.frozenAt j
      have HS := Lib.hid (HO'.out.stored j (Value.int .i64 (xs.getD j 0)))
      obtain ⟨x, hxx⟩ : ∃ x, xs.getD j 0 = x := ⟨_, rfl⟩
      have HXX := Lib.hid hxx
      rw [hxx] at hc
      clear hxx hx
      go_wp2
      refine ⟨⟨j + 1, by omega, by go_num, ?_, HB'.out.setCell (Nat.le_refl _) _⟩, by simp [intOf]; omega⟩
      have h1 := HS.out.1
      rw [set_step (fun i => Value.int .i64 (xs.getD i 0)) zs j (by have := HZ.out; omega)] at h1
      rw [HXX.out] at h1
      exact h1
    · go_wp2
      go_ret
      obtain rfl : j = n := by omega
      refine ⟨_, rfl, ?_, HB'.out⟩
      have h1 := HO'.out
      rw [List.drop_of_length_le (by have := HZ.out; omega), List.append_nil] at h1
      rw [← HL.out] at h1 ⊢
      rw [range_map_getD] at h1
      exact OwnV.of_own h1
set_option maxRecDepth 100000 in
set_option maxHeartbeats 400000 in
theorem eqIntS_same (A B : Option Addr) (n c d : Nat) (xs : List Int) (w : World) (hA : VRow w A n (ints xs)) (hB : VRow w B n (ints xs)) (hn : n ≤ maxLen) :
    Calls Try.prog 7 #[.slice A n c, .slice B n d] w fun e w' => e = .returned (.bool true) ∧ Below w.heap.size w w' := by
  unfold maxLen at hn
  have hl : xs.length = n := by simpa [ints] using hA.1
  have HL := Lib.hid hl
  clear hl
  go_enter Try.func7, Try.ntmps7
  go_wp2
  go_loopw [5] (fun i wr => ∃ k q : Nat, k ≤ n ∧ i = .int .i64 k ∧ wr = w.drewN q) (fun i _ => n - (intOf i).toNat)
  case atStart => exact ⟨0, 0, Nat.zero_le _, rfl, rfl⟩
  case round =>
    obtain ⟨k, q, hk, rfl, rfl⟩ := hrel
    by_cases hlt : k < n
    · obtain ⟨g, o, rfl, hg, hc⟩ := hA.at_ hlt
      obtain ⟨g', o', rfl, hg', hc'⟩ := hB.at_ hlt
      rw [ints_get] at hc hc'
      go_wp2
      go_quiet (fail)
      go_wp2
      exact ⟨⟨k + 1, q + nq, by omega, by go_num, rfl⟩, by simp [intOf]; omega⟩
    · go_wp2
      go_ret
      exact ⟨rfl, below_drewN (Below.refl _ _) q⟩
end Go.Proofs.Ytgmgdbnfmlmicaa
