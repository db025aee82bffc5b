/- Contracts of l02Cmp and NatCmp of the model, of cmp.Compare at int and of NatCmp of the program. Conditions: none. -/
import Derived.Test.YtdilgjakodimbaaGreatDoorProg
import Derived.Test.YtdilgjakodimbaaGreatDoorNatOk
namespace Go.Proofs.YtdilgjakodimbaaGreatDoor
open Go.RowKit Nt
set_option linter.unusedVariables false

theorem sgn_lt {a b : Nat} (h : a < b) : sgn a b = -1 := by rw [sgn, if_pos h]
theorem sgn_gt {a b : Nat} (h : b < a) : sgn a b = 1 := by rw [sgn, if_neg (by omega), if_neg (by omega)]
theorem sgn_eq {a b : Nat} (h : a = b) : sgn a b = 0 := by rw [sgn, if_neg (by omega), if_pos h]
/-- What NatCmp answers. -/
def cmpI (xs ys : List Int) : Int := if okI xs = true ∧ okI ys = true then sgn (val (toN xs)) (val (toN ys)) else 0

set_option maxRecDepth 100000 in
set_option maxHeartbeats 1000000 in
theorem l02Cmp_any (A B : Option Addr) (n c m d : Nat) (ds es : List Nat) (w : World) (hA : VRow w A n (nats ds)) (hB : VRow w B m (nats es)) (hds : Canon ds) (hes : Canon es) (hn : n ≤ maxLen) (hm : m ≤ maxLen) :
    Calls Tryz.prog 72 #[.slice A n c, .slice B m d] w fun e w' => e = .returned (.int .i64 (sgn (val ds) (val es))) ∧ Below w.heap.size w w' := by
  unfold maxLen at hn hm
  have HL := Lib.hid (show ds.length = n by simpa [nats_len] using hA.1)
  have HM := Lib.hid (show es.length = m by simpa [nats_len] using hB.1)
  by_cases hlt : n < m
  · rw [sgn_lt (val_lt_len hds.1 hes (by have := HL.out; have := HM.out; omega))]
    go_enter Tryz.func72, Tryz.ntmps72
    go_wp2
    go_ret
    exact ⟨rfl, Below.refl _ _⟩
  by_cases hgt : m < n
  · rw [sgn_gt (val_lt_len hes.1 hds (by have := HL.out; have := HM.out; omega))]
    go_enter Tryz.func72, Tryz.ntmps72
    go_wp2
    go_ret
    exact ⟨rfl, Below.refl _ _⟩
  obtain rfl : n = m := by omega
  have HD := Lib.hid hds
  have HE := Lib.hid hes
  clear hds hes
  go_enter Tryz.func72, Tryz.ntmps72
  go_wp2
  go_loopw [5] (fun i wr => ∃ k q : Nat, k ≤ n ∧ i = .int .i64 ((k : Int) - 1) ∧ wr = w.drewN q ∧ ds.drop k = es.drop k) (fun i _ => (intOf i + 1).toNat)
  case atStart => exact ⟨n, 0, Nat.le_refl _, by go_num, rfl, by rw [List.drop_of_length_le (by have := HL.out; omega), List.drop_of_length_le (by have := HM.out; omega)]⟩
  case round =>
    obtain ⟨k, q, hk, rfl, rfl, hdr⟩ := hrel
    have HDR := Lib.hid hdr
    clear hdr
    by_cases h0 : k = 0
    · subst h0
      go_wp2
      go_ret
      have e : ds = es := by simpa using HDR.out
      rw [sgn_eq (by rw [e])]
      exact ⟨rfl, below_drewN (Below.refl _ _) _⟩
    · obtain ⟨i, rfl⟩ : ∃ i, k = i + 1 := ⟨k - 1, by omega⟩
      have hwi : ((i + 1 : Nat) : Int) - 1 = (i : Int) := by omega
      rw [hwi]
      clear hwi
      obtain ⟨g, o, rfl, hg, hc⟩ := hA.at_ (show i < n by omega)
      obtain ⟨g', o', rfl, hg', hc'⟩ := hB.at_ (show i < n by omega)
      rw [nats_get] at hc hc'
      have hix : i < ds.length := by have := HL.out; omega
      have hiy : i < es.length := by have := HM.out; omega
      obtain ⟨x, hx⟩ : ∃ x, ds[i] = x := ⟨_, rfl⟩
      obtain ⟨y, hy⟩ : ∃ y, es[i] = y := ⟨_, rfl⟩
      rw [hx] at hc
      rw [hy] at hc'
      have HX := Lib.hid hx
      have HY := Lib.hid hy
      clear hx hy
      by_cases h1 : x < y
      · go_wp2
        go_quiet (fail)
        go_wp2
        go_ret
        rw [sgn_lt (val_lt_at HD.out.1 i hix hiy HDR.out (by rw [HX.out, HY.out]; exact h1))]
        exact ⟨rfl, below_drewN (below_drewN (Below.refl _ _) _) _⟩
      by_cases h2 : y < x
      · go_wp2
        go_quiet (fail)
        go_wp2
        go_quiet (fail)
        go_wp2
        go_ret
        rw [sgn_gt (val_lt_at HE.out.1 i hiy hix HDR.out.symm (by rw [HX.out, HY.out]; exact h2))]
        exact ⟨rfl, below_drewN (below_drewN (below_drewN (Below.refl _ _) _) _) _⟩
      obtain rfl : x = y := by omega
      go_wp2
      go_quiet (fail)
      go_wp2
      go_quiet (fail)
      go_wp2
      exact ⟨⟨i, _, by omega, by go_num, rfl, drop_eq_succ i hix hiy HDR.out (by rw [HX.out, HY.out])⟩, by simp [intOf]⟩
end Go.Proofs.YtdilgjakodimbaaGreatDoor
