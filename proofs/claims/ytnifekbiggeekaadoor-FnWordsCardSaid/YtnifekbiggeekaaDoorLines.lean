/- Contracts of spec.SplitLines and impl.SplitLines: each returns, in new memory, the lines of the string. Condition: the string is at most 2^20 bytes long. -/
import Derived.Test.YtnifekbiggeekaaDoorSplit
namespace Go.Proofs.YtnifekbiggeekaaDoor
open Go.RowKit Sp
set_option linter.unusedVariables false

theorem lines_own {s : ByteArray} {w w1 : World} {A : Option Addr} {c n : Nat} {e : TypeId} (hn : (scan s ⟨#[10]⟩ s.size).1.length = n) (ho : w1.ownsRow w.heap.size e 1 (.slice A (n + 1) c) (n + 1) ((parts s ⟨#[10]⟩).map .string)) :
    w1.ownsRow w.heap.size e 1 (.slice A n c) n ((scan s ⟨#[10]⟩ s.size).1.map .string) := by
  have := own_take ho (Nat.le_succ n)
  rwa [parts, List.map_append, List.take_append_of_le_length (by simp; omega), List.take_of_length_le (by simp; omega)] at this

set_option maxHeartbeats 1000000 in
theorem splitLines_impl (s : ByteArray) (w : World) (hs : s.size ≤ 1048576) :
    Calls Tryd.prog 13 #[.string s] w (OwnS (lines s) w) := by
  have hsc := (scan_le s ⟨#[10]⟩ s.size).2
  obtain ⟨n, hn⟩ : ∃ n, (scan s ⟨#[10]⟩ s.size).1.length = n := ⟨_, rfl⟩
  obtain ⟨x, hx⟩ : ∃ x, s.extract (scan s ⟨#[10]⟩ s.size).2 s.size = x := ⟨_, rfl⟩
  rw [hn] at hsc
  have HN := Lib.hid hn
  have HX := Lib.hid hx
  clear hn hx
  go_enter Tryd.func13, Tryd.ntmps13
  go_wp2_with fail
  refine (splitAny_impl s ⟨#[10]⟩ w hs (by show 1 ≤ _; omega)).mono ?_
  rintro e w1 ⟨v, rfl, ho, hb⟩
  rw [show (parts s ⟨#[10]⟩).length = n + 1 from by simp [parts, HN.out]] at ho
  obtain ⟨A, c, rfl⟩ := own_shape ho
  have hcap := own_cap ho
  unfold maxLen at hcap
  obtain ⟨g, cc, hA, _, _⟩ := ho.form (Nat.succ_pos n)
  obtain ⟨rfl, rfl⟩ : A = some ⟨g, 0, none⟩ ∧ c = cc := by simpa using hA
  have hc : w1.cell? ⟨g, n, none⟩ = some (.string x) := by
    rw [ho.cellAt n (by omega)]
    simp [parts, HN.out, HX.out]
  have HO := Lib.hid ho
  have HB := Lib.hid hb
  clear ho hb hA
  by_cases hem : x.toList.isEmpty = true
  · have HE := Lib.hid hem
    go_wp2
    go_ret
    refine ⟨_, rfl, ?_, HB.out⟩
    rw [show lines s = (scan s ⟨#[10]⟩ s.size).1 from by unfold lines; rw [HX.out, if_pos HE.out], HN.out]
    exact lines_own HN.out HO.out
  · have hef : x.toList.isEmpty = false := by simpa using hem
    have HE := Lib.hid hef
    clear hem
    go_wp2
    go_ret
    refine ⟨_, rfl, ?_, HB.out⟩
    rw [show lines s = parts s ⟨#[10]⟩ from by unfold lines; rw [HX.out, if_neg (by rw [HE.out]; decide)], show (parts s ⟨#[10]⟩).length = n + 1 from by simp [parts, HN.out]]
    exact HO.out
end Go.Proofs.YtnifekbiggeekaaDoor
