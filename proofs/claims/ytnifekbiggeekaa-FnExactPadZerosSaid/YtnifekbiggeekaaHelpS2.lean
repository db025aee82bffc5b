/- Contracts of the laws' helpers toStringS (a copy in new memory) and szStringS (a bound on lengths). -/
import Derived.Test.YtnifekbiggeekaaHelpS
import Derived.Test.YtnifekbiggeekaaJoinMath
namespace Go.Proofs.Ytnifekbiggeekaa
open Go.RowKit Jn
set_option linter.unusedVariables false

set_option maxHeartbeats 1000000 in
theorem toStringS_any (A : Option Addr) (n c : Nat) (xs : List ByteArray) (w : World) (hA : VRow w A n (xs.map .string)) (hn : n ≤ 1048576) :
    Calls Try.prog 22 #[.slice A n c] w (OwnS xs w) := by
  obtain ⟨i0, hi, hz0, hz1, hz2⟩ := info_parts info_str
  have HL := Lib.hid (show xs.length = n by simpa using hA.1)
  go_enter Try.func22, Try.ntmps22
  go_wp2_with (at_make; refine wpList_make_full _ rfl _ _ _ rfl w.heap.size 9 i0 _ 1 Try.underlying23 hi hz0 hz1 .i64 .i64 _ _ n rfl rfl rfl rfl (by rw [hz2]; omega) (by unfold maxLen; omega) (Nat.le_refl _) ?_; intro w1 hown hgrow)
  obtain ⟨zs, hzs⟩ : ∃ zs, (madeCells (Value.string ⟨#[]⟩).cells (n * 1)).toList = zs := ⟨_, rfl⟩
  rw [hzs] at hown
  have HZ := Lib.hid (show zs.length = n by simpa using hown.1)
  have HO := Lib.hid hown
  have HB := Lib.hid ((Below.refl w.heap.size w).grown hgrow (Nat.le_refl _) (by simp))
  clear hown hgrow hzs
  go_wp2
  go_loopw [4] (fun i wr => ∃ j : Nat, j ≤ n ∧ i = .int .i64 j ∧ wr.ownsRow w.heap.size 9 1 (.slice (some ⟨w.heap.size, 0, none⟩) n n) n ((List.range j).map (fun i => Value.string (xs.getD i ⟨#[]⟩)) ++ zs.drop j) ∧ Below w.heap.size w wr) (fun i _ => n - (intOf i).toNat)
  case atStart => exact ⟨0, Nat.zero_le _, rfl, by simpa using HO.out, HB.out⟩
  case round =>
    obtain ⟨j, hj, rfl, ho, hb⟩ := hrel
    have HO' := Lib.hid ho
    have HB' := Lib.hid hb
    clear ho hb
    by_cases hlt : j < n
    · obtain ⟨g, o, rfl, hg, hc⟩ := (hA.below HB'.out (Nat.le_refl _)).at_ hlt
      have hx : (xs.map Value.string)[j]'(by have := HL.out; simp; omega) = Value.string (xs.getD j ⟨#[]⟩) := by
        have := HL.out
        have hjx : j < xs.length := by omega
        simp [hjx]
      rw [hx] at hc
      have hc2 : wr.cell? ⟨w.heap.size, j, none⟩ = some (((List.range j).map (fun i => Value.string (xs.getD i ⟨#[]⟩)) ++ zs.drop j)[j]'(by have := HZ.out; simp; omega)) := by
        rw [HO'.out.cellAt j (by omega)]; exact List.getElem?_eq_getElem _
      have hf : wr.frozen? ⟨w.heap.size, j, none⟩ = false := HO'.out.frozenAt j
      have HS := Lib.hid (HO'.out.stored j (Value.string (xs.getD j ⟨#[]⟩)))
      obtain ⟨x, hxx⟩ : ∃ x, xs.getD j ⟨#[]⟩ = x := ⟨_, rfl⟩
      have HXX := Lib.hid hxx
      rw [hxx] at hc
      clear hxx hx
      go_wp2
      refine ⟨⟨j + 1, by omega, by go_num, ?_, HB'.out.setCell (Nat.le_refl _) _⟩, by simp [intOf]; omega⟩
      have h1 := HS.out.1
      rw [set_step (fun i => Value.string (xs.getD i ⟨#[]⟩)) zs j (by have := HZ.out; omega)] at h1
      rw [HXX.out] at h1
      exact h1
    · go_wp2
      go_ret
      obtain rfl : j = n := by omega
      refine ⟨_, rfl, ?_, HB'.out⟩
      have h1 := HO'.out
      rw [List.drop_of_length_le (by have := HZ.out; omega), List.append_nil] at h1
      rw [← HL.out] at h1 ⊢
      rwa [range_map_getD] at h1

/-- What szStringS answers: an integer that is not negative only if all fits into 'left'. -/
def SzS (xs : List ByteArray) (left : Nat) (w : World) (e : Ending) (w' : World) : Prop :=
  ∃ z : Int, e = .returned (.int .i64 z) ∧ w = w' ∧ (0 ≤ z → xs.length + total xs ≤ left) ∧ z ≤ left ∧ -1 ≤ z

set_option maxHeartbeats 1000000 in
theorem szStringS_any (A : Option Addr) (n c left : Nat) (K : Int) (hK : K = (left : Int)) (xs : List ByteArray) (w : World) (hA : VRow w A n (xs.map .string)) (hn : n ≤ maxLen) (hx : ∀ s ∈ xs, s.size ≤ maxLen) (hl : left ≤ 1048576) :
    Calls Try.prog 20 #[.slice A n c, .int .i64 K] w (SzS xs left w) := by
  subst hK
  unfold maxLen at hn
  have HL := Lib.hid (show xs.length = n by simpa using hA.1)
  have HX := Lib.hid hx
  clear hx
  by_cases hneg : left < n
  · go_enter Try.func20, Try.ntmps20
    go_wp2
    go_ret
    exact ⟨_, rfl, rfl, fun h => absurd h (by decide), by omega, by decide⟩
  · go_enter Try.func20, Try.ntmps20
    go_wp2
    go_loop [1, 5] (fun l i => ∃ (j : Nat) (z : Int), j ≤ n ∧ i = .int .i64 j ∧ l = .int .i64 z ∧ 0 ≤ z ∧ z = (left : Int) - n - (total (xs.take j) : Nat)) (fun _ i => n - (intOf i).toNat)
    case atStart => exact ⟨0, _, Nat.zero_le _, rfl, rfl, by omega, by simp [total]⟩
    case round =>
      obtain ⟨j, z, hj, rfl, rfl, hz, hze⟩ := hrel
      have HZ := Lib.hid hze
      have hzl : z ≤ 1048576 := by omega
      clear hze
      by_cases hlt : j < n
      · obtain ⟨g, o, rfl, hg, hc⟩ := hA.at_ hlt
        have hjx : j < xs.length := by have := HL.out; omega
        simp only [List.getElem_map] at hc
        have hxs := HX.out xs[j] (List.getElem_mem hjx)
        unfold maxLen at hxs
        have HT := Lib.hid (show total (xs.take (j + 1)) = total (xs.take j) + xs[j].size by rw [take_snocB xs j hjx, total_snoc])
        by_cases hneg2 : z < xs[j].size
        · go_wp2
          go_ret
          exact ⟨_, rfl, rfl, fun h => absurd h (by decide), by omega, by decide⟩
        · go_wp2
          exact ⟨⟨j + 1, _, by omega, by go_num, rfl, by omega, by rw [HT.out, HZ.out]; omega⟩, by simp [intOf]; omega⟩
      · go_wp2
        go_ret
        refine ⟨_, rfl, rfl, fun _ => ?_, by have := HZ.out; omega, by omega⟩
        have h1 := HZ.out
        rw [List.take_of_length_le (by have := HL.out; omega)] at h1
        have := HL.out
        omega
end Go.Proofs.Ytnifekbiggeekaa
