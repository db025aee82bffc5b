/- Contracts of spec.IsDigits, impl.isDigit and impl.IsDigits: each returns whether the string is a nonempty row of ASCII digits. Condition: the string is at most maxLen bytes long. -/
import Derived.Test.YtdilgjakodimbaaDoorProg
import Derived.Test.YtdilgjakodimbaaDoorWordMath
import Derived.Test.YtdilgjakodimbaaDoorMem
import Derived.WalkKit
import Derived.WalkSpells
import Derived.WalkLawsBesides
import Derived.LoopTactic
import Derived.Outline
import Derived.Lib.Hide
namespace Go.Proofs.YtdilgjakodimbaaDoor
open Go.RowKit Wm
set_option linter.unusedVariables false


set_option maxHeartbeats 400000 in
theorem isDigits_spec (s : ByteArray) (w : World) (hs : s.size ≤ maxLen) :
    Calls Tryd.prog 91 #[.string s] w fun e w' => e = .returned (.bool (digs s)) ∧ w = w' := by
  unfold maxLen at hs
  go_enter Tryd.func91, Tryd.ntmps91
  go_wp2
  go_loop [3] (fun i => ∃ k : Nat, k ≤ s.size ∧ i = .int .i64 k ∧ digAll (s.data.toList.take k) = true) (fun i => s.size - (intOf i).toNat)
  case atStart => exact ⟨0, Nat.zero_le _, rfl, rfl⟩
  case round =>
    obtain ⟨k, hk, rfl, hd⟩ := hrel
    have HD : Hid (digAll (s.data.toList.take k) = true) := hd
    clear hd
    by_cases hlt : k < s.size
    · have HS : Hid (digAll (s.data.toList.take (k + 1)) = (digAll (s.data.toList.take k) && dg s[k])) := digAll_snoc s k hlt
      go_wp2
      · go_ret
        exact ⟨ret_bool (digs_false s k hlt (dg_hi _ (by omega))).symm, rfl⟩
      · go_round
        case rel => exact ⟨k + 1, by omega, by go_num, by rw [HS.out, HD.out, dg_of _ (by omega) (by omega)]; rfl⟩
        case measure => simp [intOf]; omega
      · go_ret
        exact ⟨ret_bool (digs_false s k hlt (dg_lo _ (by omega))).symm, rfl⟩
    · go_wp2
      go_ret
      exact ⟨ret_bool (by rw [digs_true s k hlt HD.out]), rfl⟩

end Go.Proofs.YtdilgjakodimbaaDoor
