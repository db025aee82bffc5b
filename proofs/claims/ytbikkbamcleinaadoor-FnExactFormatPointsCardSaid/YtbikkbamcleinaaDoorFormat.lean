/- The contract of spec.FormatInt: the decimal numeral of every int. Condition: the argument is an int. -/
import Derived.Test.YtbikkbamcleinaaDoorProg
import Derived.Test.YtbikkbamcleinaaDoorB1
import Derived.Test.YtbikkbamcleinaaDoorNumMath
import Derived.IntWalk
namespace Go.Proofs.YtbikkbamcleinaaDoor
open Go.RowKit Nu
set_option linter.unusedVariables false

theorem itoa_nn (u : Nat) : Lib.itoa (u : Int) = Lib.decDigits u := by unfold Lib.itoa; rw [if_neg (by omega)]; simp
theorem itoa_ng (u : Nat) (h : 1 ≤ u) : Lib.itoa (-(u : Int)) = 45 :: Lib.decDigits u := by unfold Lib.itoa; rw [if_pos (by omega)]; simp

set_option maxHeartbeats 1000000 in
theorem format_nn (u : Nat) (w : World) (hu : u ≤ 9223372036854775807) :
    Calls Tryd.prog 11 #[.int .i64 u] w fun e w' => e = .returned (.string (itoaB u)) ∧ Below w.heap.size w w' := by
  have hlen := dec_len19 u (by omega)
  go_enter Tryd.func11, Tryd.ntmps11
  go_wp2
  go_loopw [0, 3] (fun kk out wr => ∃ (m : Nat) (o : ByteArray), m ≤ u ∧ kk = .int .i64 m ∧ out = .string o ∧ Lib.decDigits m ++ o.data.toList = Lib.decDigits u ∧ Below w.heap.size w wr) (fun kk _ _ => (intOf kk).toNat)
  case atStart => exact ⟨u, _, Nat.le_refl _, rfl, rfl, by simp, Below.refl _ _⟩
  case round =>
    obtain ⟨m, o, hm, rfl, rfl, hd, hbel⟩ := hrel
    have ho : o.size ≤ 19 := by
      have h1 : (Lib.decDigits m ++ o.data.toList).length = (Lib.decDigits u).length := by rw [hd]
      have h2 : o.data.toList.length = o.size := by simp
      rw [List.length_append, h2] at h1
      omega
    have HD := Lib.hid hd
    clear hd
    by_cases hlt : 9 < m
    · have hcv := fun W => conv_one (P := Tryd.prog) 52 9 5 (48 + (m : Int) % 10) Tryd.underlying52 Tryd.underlying5 Tryd.underlying9 (by omega) (by omega) W
      go_wp2
      go_roundw
      case rel =>
        refine ⟨m / 10, _, by omega, by go_num, rfl, ?_, hbel.alloc hbel.size _⟩
        rw [← HD.out, dec_big m (by omega), app_data]
        simp
      case measure => simp [intOf]; omega
    · have hcv := fun W => conv_one (P := Tryd.prog) 52 9 5 (48 + (m : Int)) Tryd.underlying52 Tryd.underlying5 Tryd.underlying9 (by omega) (by omega) W
      go_wp2
      go_ret
      refine ⟨ret_str (bytes_ext ?_), hbel.alloc hbel.size _⟩
      rw [itoaB_data, itoa_nn, ← HD.out, dec_small m (by omega), app_data]
      simp

/-- What FormatInt leaves, its text under a name. -/
def Txt (n : Int) (w : World) (e : Ending) (w' : World) : Prop := ∃ t : ByteArray, e = .returned (.string t) ∧ t.size ≤ 20 ∧ Hid (t = itoaB n) ∧ Below w.heap.size w w'
theorem txt_of {n : Int} {w w' : World} {e : Ending} (h0 : -9223372036854775808 ≤ n) (h1 : n ≤ 9223372036854775807) (he : e = .returned (.string (itoaB n))) (hb : Below w.heap.size w w') : Txt n w e w' := ⟨_, he, itoa_len n h0 h1, rfl, hb⟩
theorem ng_step (u : Nat) (t : ByteArray) (h10 : ¬ u < 10) (ht : t = itoaB (-((u / 10 : Nat) : Int))) : t ++ (⟨#[48 + UInt8.ofNat (u % 10)]⟩ : ByteArray) = itoaB (-(u : Int)) := by
  have e : (48 : UInt8) + UInt8.ofNat (u % 10) = UInt8.ofNat (48 + u % 10) := by simp
  rw [e]
  apply bytes_ext
  rw [ht, app_data, itoaB_data, itoaB_data, itoa_ng _ (by omega), itoa_ng _ (by omega), dec_big u h10]
  rfl
theorem lt_new (w : World) (o : Obj) : w.heap.size < ((w.alloc o).drew).heap.size := by simp

set_option maxHeartbeats 1000000 in
theorem format_ng (u : Nat) (K : Int) (hK : K = -(u : Int)) (w : World) (h1 : 1 ≤ u) (hu : u ≤ 9223372036854775808) :
    Calls Tryd.prog 11 #[.int .i64 K] w fun e w' => e = .returned (.string (itoaB (-(u : Int)))) ∧ Below w.heap.size w w' := by
  induction u using Nat.strongRecOn generalizing w K with
  | _ u ih =>
    subst hK
    have IH := Lib.hid ih
    clear ih
    have hq : (-(u : Int)).tdiv 10 = -((u / 10 : Nat) : Int) := by rw [Int.neg_tdiv]; rfl
    have hr : (-(u : Int)).tmod 10 = -((u % 10 : Nat) : Int) := by rw [Int.neg_tmod]; rfl
    by_cases h10 : u < 10
    · have hcv := fun W => conv_one (P := Tryd.prog) 52 9 5 (48 + (u : Int)) Tryd.underlying52 Tryd.underlying5 Tryd.underlying9 (by omega) (by omega) W
      go_enter Tryd.func11, Tryd.ntmps11
      go_wp2
      go_ret
      refine ⟨ret_str (bytes_ext ?_), (Below.refl _ _).alloc (Nat.le_refl _) _⟩
      rw [itoaB_data, itoa_ng u h1, dec_small u h10, app_data]
      simp
    · have hq0 : ((-((u : Int) / 10)) == 0) = false := by simp; omega
      have hcv := fun W g => conv_cell (P := Tryd.prog) 52 9 5 (48 + (u : Int) % 10) Tryd.underlying52 Tryd.underlying5 Tryd.underlying9 (by omega) (by omega) W g
      have hw1 : IntKind.i64.wrap (-((u : Int) / 10)) = -((u : Int) / 10) := IntWalk.i64_in _ (by omega)
      have hw2 : IntKind.i64.wrap (48 + (u : Int) % 10) = 48 + (u : Int) % 10 := IntWalk.i64_in _ (by omega)
      have hw3 : IntKind.u8.wrap (48 + (u : Int) % 10) = 48 + (u : Int) % 10 := IntWalk.u8_in _ (by omega)
      go_enter Tryd.func11, Tryd.ntmps11
      go_wp2
      go_region_with (go_at_call 11; refine ((IH.out (u / 10) (by omega) _ (by omega) _ (by omega) (by omega)).mono (fun e w' h => txt_of (by omega) (by omega) h.1 h.2)).mono ?_; rintro e w1 ⟨t, rfl, hts, HT, hb⟩; try (have hc1 := hb.cell (p := ⟨w.heap.size, 0, none⟩) (lt_new w _); simp at hc1))
      all_goals
        go_wp2
        go_ret
        refine ⟨ret_str (ng_step u _ h10 HT.out), ?_⟩
        first
          | exact (((Below.refl _ _).alloc (Nat.le_refl _) _).drew).trans (hb.mono (Nat.le_of_lt (lt_new w _)))
          | exact ((Below.refl _ _).drew.trans hb).alloc hb.size _
theorem format_any (n : Int) (w : World) (h0 : -9223372036854775808 ≤ n) (h1 : n ≤ 9223372036854775807) :
    Calls Tryd.prog 11 #[.int .i64 n] w fun e w' => e = .returned (.string (itoaB n)) ∧ Below w.heap.size w w' := by
  by_cases h : n < 0
  · obtain ⟨u, hu⟩ : ∃ u : Nat, n = -(u : Int) := ⟨n.natAbs, by omega⟩
    have := format_ng u n hu w (by omega) (by omega)
    rwa [← hu] at this
  · obtain ⟨u, rfl⟩ : ∃ u : Nat, n = (u : Int) := ⟨n.toNat, by omega⟩
    exact format_nn u w (by omega)
end Go.Proofs.YtbikkbamcleinaaDoor
