/- The contract of spec.PadZeros. Condition: the string is at most 2^20 bytes long. -/
import Derived.Test.YtbikkbamcleinaaDoorJoin
namespace Go.Proofs.YtbikkbamcleinaaDoor
open Go.RowKit
set_option linter.unusedVariables false

/-- What PadZeros answers. -/
def padz (s : ByteArray) (n : Int) : ByteArray := if 2000 < n then s else ⟨(List.replicate (n - s.size).toNat 48 ++ s.data.toList).toArray⟩
theorem padz_id (s : ByteArray) (n : Int) (h : 2000 < n ∨ n ≤ s.size) : padz s n = s := by
  unfold padz
  split
  · rfl
  · rw [show (n - s.size).toNat = 0 by omega]
    exact bytes_ext (by simp)

set_option maxHeartbeats 1000000 in
theorem padZeros_spec (s : ByteArray) (n : Int) (w : World) (hs : s.size ≤ 1048576) (hn1 : -9223372036854775808 ≤ n) (hn2 : n ≤ 9223372036854775807) :
    Calls Tryd.prog 38 #[.string s, .int .i64 n] w fun e w' => e = .returned (.string (padz s n)) ∧ w = w' := by
  by_cases hbig : 2000 < n
  · have HP := Lib.hid (padz_id s n (Or.inl hbig))
    go_enter Tryd.func38, Tryd.ntmps38
    go_wp2
    go_ret
    exact ⟨ret_str HP.out.symm, rfl⟩
  · go_enter Tryd.func38, Tryd.ntmps38
    go_wp2
    go_loop [0] (fun v => ∃ (j : Nat) (t : ByteArray), j ≤ (n - s.size).toNat ∧ v = .string t ∧ t.size = s.size + j ∧ t.data.toList = List.replicate j 48 ++ s.data.toList) (fun v => (n - match v with | .string t => (t.size : Int) | _ => 0).toNat)
    case atStart => exact ⟨0, s, Nat.zero_le _, rfl, by simp, by simp⟩
    case round =>
      obtain ⟨j, t, hj, rfl, hts, htd⟩ := hrel
      have htl : t.size ≤ 1050576 := by omega
      have HT := Lib.hid hts
      have HD := Lib.hid htd
      clear hts htd
      by_cases hlt : (t.size : Int) < n
      · go_wp2
        have e : ((⟨#[48]⟩ : ByteArray) ++ t).size = t.size + 1 := by
          rw [ByteArray.size_append]
          show 1 + t.size = t.size + 1
          omega
        refine ⟨⟨j + 1, _, by have := HT.out; omega, rfl, by rw [e, HT.out]; omega, by rw [app_data, HD.out, List.replicate_succ]; rfl⟩, ?_⟩
        simp only [e]
        omega
      · go_wp2
        go_ret
        refine ⟨ret_str (bytes_ext ?_), rfl⟩
        unfold padz
        rw [if_neg (by omega), HD.out, show (n - s.size).toNat = j by have := HT.out; omega]
end Go.Proofs.YtbikkbamcleinaaDoor
