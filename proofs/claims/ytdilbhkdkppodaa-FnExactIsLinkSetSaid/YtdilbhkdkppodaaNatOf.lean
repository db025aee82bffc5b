/- Contracts of NatOf, of the model and of the program. Conditions: none. -/
import Derived.Test.YtdilbhkdkppodaaProg
import Derived.Test.YtdilbhkdkppodaaHelpI
import Derived.Test.YtdilbhkdkppodaaNatMath
namespace Go.Proofs.Ytdilbhkdkppodaa
open Go.RowKit Nt
set_option linter.unusedVariables false

theorem cell_new (w : World) (x : Value) (t : TypeId) : ∀ j u, [x][j]? = some u → (w.alloc (.cells #[x] t)).cell? ((⟨w.heap.size, 0, none⟩ : Addr).add j) = some u := by
  intro j u hj
  cases j with
  | zero => simp at hj; subst hj; simp [Addr.add]
  | succ j => simp at hj
set_option maxRecDepth 100000 in
set_option maxHeartbeats 1000000 in
theorem natOf_spec (z : Int) (w : World) (hz : z ≤ 9223372036854775807) :
    Calls Try.prog 73 #[.int .i64 z] w (OwnR 3 (nats (dig z.toNat)) w) := by
  obtain ⟨i0, hi, hz0, hz1, hz2⟩ := info_parts info_int
  go_enter Try.func73, Try.ntmps73
  go_wp2
  go_loopw [0, 3] (fun i v wr => ∃ (y : Int) (ps : List Nat), y ≤ 9223372036854775807 ∧ i = .int .i64 y ∧ wr.ownsRow w.heap.size 3 1 v ps.length (nats ps) ∧ Below w.heap.size w wr ∧ ps ++ dig y.toNat = dig z.toNat) (fun i _ _ => (intOf i).toNat)
  case atStart => exact ⟨z, [], hz, rfl, World.ownsRow_made w #[] 0 (Nat.le_refl _) (Nat.zero_le _) rfl, (Below.refl _ _).alloc (Nat.le_refl _) _, rfl⟩
  case round =>
    obtain ⟨y, ps, hy, rfl, ho, hb, he⟩ := hrel
    have hlen : ps.length ≤ 4 := by
      have h1 : (dig z.toNat).length ≤ 4 := dig_len (by omega)
      rw [← he, List.length_append] at h1
      omega
    have HO := Lib.hid ho
    have HB := Lib.hid hb
    have HE := Lib.hid he
    clear ho hb he
    by_cases hlt : 0 < y
    · obtain ⟨m, rfl⟩ : ∃ m : Nat, y = m := ⟨y.toNat, by omega⟩
      have HCELL := Lib.hid (cell_new wr (.int .i64 ((m : Int) % 1000000000)) 3)
      go_wp2_with (at_builtin; refine wpList_append_own _ rfl (.tmp 7) (.tmp 10) 22 rfl w.heap.size 3 i0 _ 1 8 Try.underlying22 hi hz0 hz1 hz2 rfl (by decide) u3 ps.length (nats ps) rfl (HO.out.alloc _) ⟨wr.heap.size, 0, none⟩ 1 1 [.int .i64 ((m : Int) % 1000000000)] rfl rfl HCELL.out (by simp [Value.oneCell']) (by unfold maxLen; omega) (by omega) (by have := HB.out.size; simp; omega) ?_; intro v' w4 hown' hgrow _)
      have HW := Lib.hid hown'
      have HG := Lib.hid hgrow
      clear hown' hgrow
      go_wp2
      refine ⟨⟨(m / 1000000000 : Nat), ps ++ [m % 1000000000], by omega, by go_num, ?_, ?_, ?_⟩, by simp [intOf]; omega⟩
      · rw [List.length_append, nats_app]; exact HW.out
      · exact (HB.out.alloc HB.out.size _).grown HG.out (by have := HB.out.size; simp; omega) (fun k hk => (HO.out.lt k hk).1)
      · have h1 := HE.out
        rw [Int.toNat_natCast] at h1 ⊢
        rw [List.append_assoc, List.singleton_append, ← dig_pos (by omega)]
        exact h1
    · go_wp2
      go_ret
      have e0 : y.toNat = 0 := by omega
      have h1 := HE.out
      rw [e0, dig_zero, List.append_nil] at h1
      rw [← h1]
      exact ⟨_, rfl, OwnV.of_own HO.out, HB.out⟩
set_option maxRecDepth 100000 in
set_option maxHeartbeats 1000000 in
theorem natOf_impl (z : Int) (w : World) (hz : z ≤ 9223372036854775807) :
    Calls Try.prog 93 #[.int .i64 z] w (OwnR 3 (nats (dig z.toNat)) w) := by
  obtain ⟨i0, hi, hz0, hz1, hz2⟩ := info_parts info_int
  go_enter Try.func93, Try.ntmps93
  go_wp2
  go_loopw [0, 3] (fun i v wr => ∃ (y : Int) (ps : List Nat), y ≤ 9223372036854775807 ∧ i = .int .i64 y ∧ wr.ownsRow w.heap.size 3 1 v ps.length (nats ps) ∧ Below w.heap.size w wr ∧ ps ++ dig y.toNat = dig z.toNat) (fun i _ _ => (intOf i).toNat)
  case atStart => exact ⟨z, [], hz, rfl, World.ownsRow_nil _ _ _ _, Below.refl _ _, rfl⟩
  case round =>
    obtain ⟨y, ps, hy, rfl, ho, hb, he⟩ := hrel
    have hlen : ps.length ≤ 4 := by
      have h1 : (dig z.toNat).length ≤ 4 := dig_len (by omega)
      rw [← he, List.length_append] at h1
      omega
    have HO := Lib.hid ho
    have HB := Lib.hid hb
    have HE := Lib.hid he
    clear ho hb he
    by_cases hlt : 0 < y
    · obtain ⟨m, rfl⟩ : ∃ m : Nat, y = m := ⟨y.toNat, by omega⟩
      have HCELL := Lib.hid (cell_new wr (.int .i64 ((m : Int) % 1000000000)) 3)
      go_wp2_with (at_builtin; refine wpList_append_own _ rfl (.tmp 6) (.tmp 9) 22 rfl w.heap.size 3 i0 _ 1 8 Try.underlying22 hi hz0 hz1 hz2 rfl (by decide) u3 ps.length (nats ps) rfl (HO.out.alloc _) ⟨wr.heap.size, 0, none⟩ 1 1 [.int .i64 ((m : Int) % 1000000000)] rfl rfl HCELL.out (by simp [Value.oneCell']) (by unfold maxLen; omega) (by omega) (by have := HB.out.size; simp; omega) ?_; intro v' w4 hown' hgrow _)
      have HW := Lib.hid hown'
      have HG := Lib.hid hgrow
      clear hown' hgrow
      go_wp2
      refine ⟨⟨(m / 1000000000 : Nat), ps ++ [m % 1000000000], by omega, by go_num, ?_, ?_, ?_⟩, by simp [intOf]; omega⟩
      · rw [List.length_append, nats_app]; exact HW.out
      · exact (HB.out.alloc HB.out.size _).grown HG.out (by have := HB.out.size; simp; omega) (fun k hk => (HO.out.lt k hk).1)
      · have h1 := HE.out
        rw [Int.toNat_natCast] at h1 ⊢
        rw [List.append_assoc, List.singleton_append, ← dig_pos (by omega)]
        exact h1
    · go_wp2
      go_ret
      have e0 : y.toNat = 0 := by omega
      have h1 := HE.out
      rw [e0, dig_zero, List.append_nil] at h1
      rw [← h1]
      exact ⟨_, rfl, OwnV.of_own HO.out, HB.out⟩
end Go.Proofs.Ytdilbhkdkppodaa
