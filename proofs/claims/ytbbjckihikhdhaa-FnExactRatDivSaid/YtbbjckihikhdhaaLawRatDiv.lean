/- Proved: at all fractions, impl.RatDiv answers as its model spec.RatDiv in every result, writes into no argument, its answer owns its memory, the call returns true and changes no memory that was there. Conditions: none. -/
import Derived.Test.YtbbjckihikhdhaaRows
import Derived.Test.YtbbjckihikhdhaaB1
import Derived.Test.YtbbjckihikhdhaaB5
import Derived.Test.YtbbjckihikhdhaaB8
import Derived.WalkKit
import Derived.ProofKit
import Derived.OpenShut
import Derived.ShutString
import Derived.ChangeOld
import Derived.Below
namespace Go.Proofs.Ytbbjckihikhdhaa.lawRatDiv
open Go.ChangeShapes Go.WideShapes Go.ChangeAt Go.RowKit
open Go.ChangeMaps (open_string shut_string)
set_option linter.unusedVariables false

theorem own : ownKnob Try.prog.godebug = none := by kernel_rfl
theorem laidOut : laidOutB Try.prog = true := by kernel_rfl
open Nt

set_option maxRecDepth 100000 in
set_option maxHeartbeats 4000000 in
theorem walk (W : World) (s0 : Bool) (a0 : Option Addr) (len0 cap0 : Nat) (z0 : List Int) (w0 : IsInts .i64 W a0 len0 cap0 z0) (a0b : Option Addr) (len0b cap0b : Nat) (z0b : List Int) (w0b : IsInts .i64 W a0b len0b cap0b z0b) (s1 : Bool) (a1 : Option Addr) (len1 cap1 : Nat) (z1 : List Int) (w1 : IsInts .i64 W a1 len1 cap1 z1) (a1b : Option Addr) (len1b cap1b : Nat) (z1b : List Int) (w1b : IsInts .i64 W a1b len1b cap1b z1b) :
    Calls Try.prog 6 #[.agg #[.bool s0, .slice a0 len0 cap0, .slice a0b len0b cap0b], .agg #[.bool s1, .slice a1 len1 cap1, .slice a1b len1b cap1b]] W fun e w' => e = .returned (.bool true) ∧ Below W.heap.size W w' := by
  obtain ⟨hA0, hcap0, hcm0, hzs0⟩ := w0
  have hlm0 : len0 ≤ 9223372036854775807 := by unfold maxLen at hcm0; omega
  have HZ0 := Lib.hid (show (ints z0).length = len0 from hA0.1)
  have HA0 := Lib.hid (show VRow W a0 len0 (ints z0) from hA0)
  clear hA0 hzs0 hcm0
  obtain ⟨hA0b, hcap0b, hcm0b, hzs0b⟩ := w0b
  have hlm0b : len0b ≤ 9223372036854775807 := by unfold maxLen at hcm0b; omega
  have HZ0b := Lib.hid (show (ints z0b).length = len0b from hA0b.1)
  have HA0b := Lib.hid (show VRow W a0b len0b (ints z0b) from hA0b)
  clear hA0b hzs0b hcm0b
  obtain ⟨hA1, hcap1, hcm1, hzs1⟩ := w1
  have hlm1 : len1 ≤ 9223372036854775807 := by unfold maxLen at hcm1; omega
  have HZ1 := Lib.hid (show (ints z1).length = len1 from hA1.1)
  have HA1 := Lib.hid (show VRow W a1 len1 (ints z1) from hA1)
  clear hA1 hzs1 hcm1
  obtain ⟨hA1b, hcap1b, hcm1b, hzs1b⟩ := w1b
  have hlm1b : len1b ≤ 9223372036854775807 := by unfold maxLen at hcm1b; omega
  have HZ1b := Lib.hid (show (ints z1b).length = len1b from hA1b.1)
  have HA1b := Lib.hid (show VRow W a1b len1b (ints z1b) from hA1b)
  clear hA1b hzs1b hcm1b
  obtain ⟨RS0, hRS0⟩ : ∃ b : Bool, rtS (okR s0 z0 z0b && okR s1 z1 z1b) (signed (s0 != s1) (val (toN z0) * val (toN z1b))) (val (toN z0b) * val (toN z1)) = b := ⟨_, rfl⟩
  have HS0 := Lib.hid hRS0
  clear hRS0
  obtain ⟨R0, hR0⟩ : ∃ R : List Int, nats (rtN (okR s0 z0 z0b && okR s1 z1 z1b) (signed (s0 != s1) (val (toN z0) * val (toN z1b))) (val (toN z0b) * val (toN z1))) = ints R := ⟨_, rfl⟩
  have hN0 : R0.length ≤ 1048576 := by have h : (nats (rtN (okR s0 z0 z0b && okR s1 z1 z1b) (signed (s0 != s1) (val (toN z0) * val (toN z1b))) (val (toN z0b) * val (toN z1)))).length ≤ 1048576 := (by rw [nats_len]; exact Nat.le_trans (rtN_len _ _ _) (by omega)); rw [hR0, ints_len] at h; exact h
  obtain ⟨n0, hn0⟩ : ∃ n, R0.length = n := ⟨_, rfl⟩
  rw [hn0] at hN0
  have HN0 := Lib.hid (show (ints R0).length = n0 by rw [ints_len]; exact hn0)
  have HR0 := Lib.hid hR0
  clear hR0 hn0
  obtain ⟨R0b, hR0b⟩ : ∃ R : List Int, nats (rtD (okR s0 z0 z0b && okR s1 z1 z1b) (signed (s0 != s1) (val (toN z0) * val (toN z1b))) (val (toN z0b) * val (toN z1))) = ints R := ⟨_, rfl⟩
  have hN0b : R0b.length ≤ 1048576 := by have h : (nats (rtD (okR s0 z0 z0b && okR s1 z1 z1b) (signed (s0 != s1) (val (toN z0) * val (toN z1b))) (val (toN z0b) * val (toN z1)))).length ≤ 1048576 := (by rw [nats_len]; exact Nat.le_trans (rtD_len _ _ _) (by omega)); rw [hR0b, ints_len] at h; exact h
  obtain ⟨n0b, hn0b⟩ : ∃ n, R0b.length = n := ⟨_, rfl⟩
  rw [hn0b] at hN0b
  have HN0b := Lib.hid (show (ints R0b).length = n0b by rw [ints_len]; exact hn0b)
  have HR0b := Lib.hid hR0b
  clear hR0b hn0b
  have HB_0 := Lib.hid (((Below.refl W.heap.size W).alloc (Nat.le_refl _) (.cells #[.bool s0, .slice a0 len0 cap0, .slice a0b len0b cap0b] 26)).alloc (by simp) (.cells #[.bool s1, .slice a1 len1 cap1, .slice a1b len1b cap1b] 26))
  have K_a0_0 := Lib.hid ((HeldL.new_at W (W.heap.size) [.bool s0, .slice a0 len0 cap0, .slice a0b len0b cap0b] 26 (by first | rfl | simp)).alloc (.cells #[.bool s1, .slice a1 len1 cap1, .slice a1b len1b cap1b] 26))
  have K_a1_0 := Lib.hid (HeldL.new_at (W.alloc (.cells #[.bool s0, .slice a0 len0 cap0, .slice a0b len0b cap0b] 26)) (W.heap.size + 1) [.bool s1, .slice a1 len1 cap1, .slice a1b len1b cap1b] 26 (by first | rfl | simp))
  go_enter Try.func6, Try.ntmps6
  go_wp2_with fail
  refine (szRat_any s0 a0 len0 cap0 a0b len0b cap0b 1048576 _ (by omega) (by omega) (by omega) (by omega)).mono ?_
  rintro e w1 ⟨rfl, hb⟩
  have K_a0_1 := Lib.hid (K_a0_0.out.after hb)
  clear K_a0_0
  have K_a1_1 := Lib.hid (K_a1_0.out.after hb)
  clear K_a1_0
  have HB_1 := Lib.hid (HB_0.out.trans (hb.mono HB_0.out.size))
  clear hb HB_0
  by_cases hs0 : (1048576 : Int) < (len0 + len0b : Nat)
  · rw [szOf_neg hs0]
    go_wp2
    go_ret
    exact ⟨rfl, HB_1.out⟩
  rw [szOf_pos hs0]
  obtain ⟨left0, hq0⟩ : ∃ q : Int, 1048576 - ((len0 + len0b : Nat) : Int) = q := ⟨_, rfl⟩
  have hl00 : 0 ≤ left0 ∧ left0 ≤ 1048576 ∧ len0 + len0b ≤ 1048576 := by omega
  rw [hq0]
  clear hq0 hs0
  have hk_a1_0_1 := K_a1_1.out.cell 0 _ rfl
  have hk_a1_1_1 := K_a1_1.out.cell 1 _ rfl
  have hk_a1_2_1 := K_a1_1.out.cell 2 _ rfl
  go_wp2_with fail
  refine (szRat_any s1 a1 len1 cap1 a1b len1b cap1b left0 _ (by omega) (by omega) (by omega) (by omega)).mono ?_
  rintro e w2 ⟨rfl, hb⟩
  have K_a0_2 := Lib.hid (K_a0_1.out.after hb)
  clear K_a0_1
  have K_a1_2 := Lib.hid (K_a1_1.out.after hb)
  clear K_a1_1
  have HB_2 := Lib.hid (HB_1.out.trans (hb.mono HB_1.out.size))
  clear hb HB_1
  clear hk_a1_0_1
  clear hk_a1_1_1
  clear hk_a1_2_1
  by_cases hs1 : (left0 : Int) < (len1 + len1b : Nat)
  · rw [szOf_neg hs1]
    go_wp2
    go_ret
    exact ⟨rfl, HB_2.out⟩
  rw [szOf_pos hs1]
  obtain ⟨left1, hq1⟩ : ∃ q : Int, left0 - ((len1 + len1b : Nat) : Int) = q := ⟨_, rfl⟩
  have hl01 : 0 ≤ left1 ∧ left1 ≤ 1048576 ∧ len1 + len1b ≤ 1048576 := by omega
  rw [hq1]
  clear hq1 hs1
  have hk_a0_0_2 := K_a0_2.out.cell 0 _ rfl
  have hk_a0_1_2 := K_a0_2.out.cell 1 _ rfl
  have hk_a0_2_2 := K_a0_2.out.cell 2 _ rfl
  have hk_a1_0_2 := K_a1_2.out.cell 0 _ rfl
  have hk_a1_1_2 := K_a1_2.out.cell 1 _ rfl
  have hk_a1_2_2 := K_a1_2.out.cell 2 _ rfl
  go_upto_region 8 with fail
  go_cut [6] (fun p wx => ∃ b A Ab c cb, p = .pointer (some ⟨b, 0, none⟩) ∧ HeldL wx b [.bool RS0, .slice A n0 c, .slice Ab n0b cb] ∧ OwnV wx W.heap.size 3 (.slice A n0 c) (ints R0) ∧ OwnV wx W.heap.size 3 (.slice Ab n0b cb) (ints R0b) ∧ ((Value.slice A n0 c).ownBlock = none ∨ (Value.slice A n0 c).ownBlock ≠ (Value.slice Ab n0b cb).ownBlock) ∧ ((Value.slice Ab n0b cb).ownBlock = none ∨ (Value.slice Ab n0b cb).ownBlock ≠ (Value.slice A n0 c).ownBlock) ∧ HeldL wx (W.heap.size) [.bool s0, .slice a0 len0 cap0, .slice a0b len0b cap0b] ∧ HeldL wx (W.heap.size + 1) [.bool s1, .slice a1 len1 cap1, .slice a1b len1b cap1b] ∧ Below W.heap.size W wx)
  case first =>
    go_region_held3 (fun w' => w'.cell? ⟨W.heap.size, 0, none⟩ = some (.bool s0) ∧ w'.cell? ⟨W.heap.size, 1, none⟩ = some (.slice a0 len0 cap0) ∧ w'.cell? ⟨W.heap.size, 2, none⟩ = some (.slice a0b len0b cap0b) ∧ w'.cell? ⟨W.heap.size + 1, 0, none⟩ = some (.bool s1) ∧ w'.cell? ⟨W.heap.size + 1, 1, none⟩ = some (.slice a1 len1 cap1) ∧ w'.cell? ⟨W.heap.size + 1, 2, none⟩ = some (.slice a1b len1b cap1b)) (go_keep)
      (first
        | (go_at_call_of 17 (Value.agg #[Value.bool s0, Value.slice a0 len0 cap0, Value.slice a0b len0b cap0b])
           refine (toRat_any s0 a0 len0 cap0 z0 a0b len0b cap0b z0b _ ?_ ?_ ?_ ?_).mono ?_
           first | exact HA0.out.below HB_2.out.drew (Nat.le_refl _) | exact HA0.out.below (HB_2.out.alloc HB_2.out.size (.cells #[.bool false, .slice none 0 0, .slice none 0 0] 30)).drew (Nat.le_refl _)
           first | exact HA0b.out.below HB_2.out.drew (Nat.le_refl _) | exact HA0b.out.below (HB_2.out.alloc HB_2.out.size (.cells #[.bool false, .slice none 0 0, .slice none 0 0] 30)).drew (Nat.le_refl _)
           omega
           omega
           rintro e u1 ⟨v0, v1, rfl, ho0, ho1, ap01, ap10, hb⟩
           clear ap01 ap10
           obtain ⟨A_t0, c_t0, hv⟩ := ho0.shape
           rw [HZ0.out] at hv
           subst hv
           obtain ⟨A_t0b, c_t0b, hv⟩ := ho1.shape
           rw [HZ0b.out] at hv
           subst hv
           first | (have KN1 := Lib.hid ((HeldL.new w2 [.bool false, .slice none 0 0, .slice none 0 0] 30).drew.after hb); have HLN1 := Lib.hid (HeldL.new w2 [.bool false, .slice none 0 0, .slice none 0 0] 30).lt; have HGN := Lib.hid HB_2.out.size; have NE_a0 := Lib.hid (Nat.ne_of_lt K_a0_2.out.lt); have NE_a1 := Lib.hid (Nat.ne_of_lt K_a1_2.out.lt)) | skip
           have T9 : HeldL u1 (W.heap.size) [.bool s0, .slice a0 len0 cap0, .slice a0b len0b cap0b] := by first | exact K_a0_2.out.drew.after hb | exact (K_a0_2.out.alloc (.cells #[.bool false, .slice none 0 0, .slice none 0 0] 30)).drew.after hb
           have KK_a0_1 := Lib.hid T9
           clear T9
           have T9 : HeldL u1 (W.heap.size + 1) [.bool s1, .slice a1 len1 cap1, .slice a1b len1b cap1b] := by first | exact K_a1_2.out.drew.after hb | exact (K_a1_2.out.alloc (.cells #[.bool false, .slice none 0 0, .slice none 0 0] 30)).drew.after hb
           have KK_a1_1 := Lib.hid T9
           clear T9
           have T9 : OwnV u1 W.heap.size 3 (.slice A_t0 len0 c_t0) (ints z0) := by first | exact ho0.based HB_2.out.drew.size | exact ho0.based (HB_2.out.alloc HB_2.out.size (.cells #[.bool false, .slice none 0 0, .slice none 0 0] 30)).drew.size
           have HH_t0_1 := Lib.hid T9
           clear T9 ho0
           have T9 : OwnV u1 W.heap.size 3 (.slice A_t0b len0b c_t0b) (ints z0b) := by first | exact ho1.based HB_2.out.drew.size | exact ho1.based (HB_2.out.alloc HB_2.out.size (.cells #[.bool false, .slice none 0 0, .slice none 0 0] 30)).drew.size
           have HH_t0b_1 := Lib.hid T9
           clear T9 ho1
           have T9 : Below W.heap.size W u1 := by first | exact (HB_2.out.drew).trans (hb.mono (HB_2.out.drew).size) | exact ((HB_2.out.alloc HB_2.out.size (.cells #[.bool false, .slice none 0 0, .slice none 0 0] 30)).drew).trans (hb.mono ((HB_2.out.alloc HB_2.out.size (.cells #[.bool false, .slice none 0 0, .slice none 0 0] 30)).drew).size)
           have HHB_1 := Lib.hid T9
           clear T9 hb
           have hka0_0_1 := KK_a0_1.out.cell 0 _ rfl
           have hka0_1_1 := KK_a0_1.out.cell 1 _ rfl
           have hka0_2_1 := KK_a0_1.out.cell 2 _ rfl
           have hka1_0_1 := KK_a1_1.out.cell 0 _ rfl
           have hka1_1_1 := KK_a1_1.out.cell 1 _ rfl
           have hka1_2_1 := KK_a1_1.out.cell 2 _ rfl)
        | (go_at_call_of 17 (Value.agg #[Value.bool s1, Value.slice a1 len1 cap1, Value.slice a1b len1b cap1b])
           refine (toRat_any s1 a1 len1 cap1 z1 a1b len1b cap1b z1b _ ?_ ?_ ?_ ?_).mono ?_
           first | exact HA1.out.below HHB_1.out (Nat.le_refl _) | exact HA1.out.below (HHB_1.out.alloc HHB_1.out.size (.cells #[.bool false, .slice none 0 0, .slice none 0 0] 30)) (Nat.le_refl _)
           first | exact HA1b.out.below HHB_1.out (Nat.le_refl _) | exact HA1b.out.below (HHB_1.out.alloc HHB_1.out.size (.cells #[.bool false, .slice none 0 0, .slice none 0 0] 30)) (Nat.le_refl _)
           omega
           omega
           rintro e u2 ⟨v0, v1, rfl, ho0, ho1, ap01, ap10, hb⟩
           clear ap01 ap10
           obtain ⟨A_t1, c_t1, hv⟩ := ho0.shape
           rw [HZ1.out] at hv
           subst hv
           obtain ⟨A_t1b, c_t1b, hv⟩ := ho1.shape
           rw [HZ1b.out] at hv
           subst hv
           first | (have KN2 := Lib.hid (KN1.out.after hb); have HLN2 := Lib.hid KN1.out.lt) | (have KN2 := Lib.hid ((HeldL.new u1 [.bool false, .slice none 0 0, .slice none 0 0] 30).after hb); have HLN2 := Lib.hid (HeldL.new u1 [.bool false, .slice none 0 0, .slice none 0 0] 30).lt; have HGN := Lib.hid HHB_1.out.size; have NE_a0 := Lib.hid (Nat.ne_of_lt KK_a0_1.out.lt); have NE_a1 := Lib.hid (Nat.ne_of_lt KK_a1_1.out.lt)) | skip
           have T9 : HeldL u2 (W.heap.size) [.bool s0, .slice a0 len0 cap0, .slice a0b len0b cap0b] := by first | exact KK_a0_1.out.after hb | exact (KK_a0_1.out.alloc (.cells #[.bool false, .slice none 0 0, .slice none 0 0] 30)).after hb
           have KK_a0_2 := Lib.hid T9
           clear T9
           have T9 : HeldL u2 (W.heap.size + 1) [.bool s1, .slice a1 len1 cap1, .slice a1b len1b cap1b] := by first | exact KK_a1_1.out.after hb | exact (KK_a1_1.out.alloc (.cells #[.bool false, .slice none 0 0, .slice none 0 0] 30)).after hb
           have KK_a1_2 := Lib.hid T9
           clear T9
           have T9 : OwnV u2 W.heap.size 3 (.slice A_t0 len0 c_t0) (ints z0) := by first | exact OwnV.below (w := u1) HH_t0_1.out hb | exact OwnV.below (w := (u1.alloc (.cells #[.bool false, .slice none 0 0, .slice none 0 0] 30))) (OwnV.below HH_t0_1.out ((Below.refl _ u1).alloc (Nat.le_refl _) (.cells #[.bool false, .slice none 0 0, .slice none 0 0] 30))) hb
           have HH_t0_2 := Lib.hid T9
           clear T9
           have T9 : OwnV u2 W.heap.size 3 (.slice A_t0b len0b c_t0b) (ints z0b) := by first | exact OwnV.below (w := u1) HH_t0b_1.out hb | exact OwnV.below (w := (u1.alloc (.cells #[.bool false, .slice none 0 0, .slice none 0 0] 30))) (OwnV.below HH_t0b_1.out ((Below.refl _ u1).alloc (Nat.le_refl _) (.cells #[.bool false, .slice none 0 0, .slice none 0 0] 30))) hb
           have HH_t0b_2 := Lib.hid T9
           clear T9
           have T9 : OwnV u2 W.heap.size 3 (.slice A_t1 len1 c_t1) (ints z1) := by first | exact ho0.based HHB_1.out.size | exact ho0.based (HHB_1.out.alloc HHB_1.out.size (.cells #[.bool false, .slice none 0 0, .slice none 0 0] 30)).size
           have HH_t1_2 := Lib.hid T9
           clear T9 ho0
           have T9 : OwnV u2 W.heap.size 3 (.slice A_t1b len1b c_t1b) (ints z1b) := by first | exact ho1.based HHB_1.out.size | exact ho1.based (HHB_1.out.alloc HHB_1.out.size (.cells #[.bool false, .slice none 0 0, .slice none 0 0] 30)).size
           have HH_t1b_2 := Lib.hid T9
           clear T9 ho1
           have T9 : Below W.heap.size W u2 := by first | exact (HHB_1.out).trans (hb.mono (HHB_1.out).size) | exact ((HHB_1.out.alloc HHB_1.out.size (.cells #[.bool false, .slice none 0 0, .slice none 0 0] 30))).trans (hb.mono ((HHB_1.out.alloc HHB_1.out.size (.cells #[.bool false, .slice none 0 0, .slice none 0 0] 30))).size)
           have HHB_2 := Lib.hid T9
           clear T9 hb
           have hka0_0_2 := KK_a0_2.out.cell 0 _ rfl
           have hka0_1_2 := KK_a0_2.out.cell 1 _ rfl
           have hka0_2_2 := KK_a0_2.out.cell 2 _ rfl
           have hka1_0_2 := KK_a1_2.out.cell 0 _ rfl
           have hka1_1_2 := KK_a1_2.out.cell 1 _ rfl
           have hka1_2_2 := KK_a1_2.out.cell 2 _ rfl)
        | (go_at_call 26
           first | refine (ratDiv_spec s0 A_t0 len0 c_t0 z0 A_t0b len0b c_t0b z0b s1 A_t1 len1 c_t1 z1 A_t1b len1b c_t1b z1b _ HH_t0_2.out.arg HH_t0b_2.out.arg HH_t1_2.out.arg HH_t1b_2.out.arg).mono ?_ | refine (ratDiv_spec s0 A_t0 len0 c_t0 z0 A_t0b len0b c_t0b z0b s1 A_t1 len1 c_t1 z1 A_t1b len1b c_t1b z1b _ (OwnV.below HH_t0_2.out ((Below.refl _ u2).alloc (Nat.le_refl _) (.cells #[.bool false, .slice none 0 0, .slice none 0 0] 30))).arg (OwnV.below HH_t0b_2.out ((Below.refl _ u2).alloc (Nat.le_refl _) (.cells #[.bool false, .slice none 0 0, .slice none 0 0] 30))).arg (OwnV.below HH_t1_2.out ((Below.refl _ u2).alloc (Nat.le_refl _) (.cells #[.bool false, .slice none 0 0, .slice none 0 0] 30))).arg (OwnV.below HH_t1b_2.out ((Below.refl _ u2).alloc (Nat.le_refl _) (.cells #[.bool false, .slice none 0 0, .slice none 0 0] 30))).arg).mono ?_
           rintro e u3 ⟨v0, v1, rfl, ho0, ho1, ap01, ap10, hb⟩
           rw [HS0.out]
           rw [HR0.out] at ho0
           obtain ⟨A_n, c_n, hv⟩ := ho0.shape
           rw [HN0.out] at hv
           subst hv
           rw [HR0b.out] at ho1
           obtain ⟨A_nb, c_nb, hv⟩ := ho1.shape
           rw [HN0b.out] at hv
           subst hv
           have Hap01 := Lib.hid ap01
           clear ap01
           have Hap10 := Lib.hid ap10
           clear ap10
           first | (have KN3 := Lib.hid (KN2.out.after hb); have HLN3 := Lib.hid KN2.out.lt) | (have KN3 := Lib.hid ((HeldL.new u2 [.bool false, .slice none 0 0, .slice none 0 0] 30).after hb); have HLN3 := Lib.hid (HeldL.new u2 [.bool false, .slice none 0 0, .slice none 0 0] 30).lt; have HGN := Lib.hid HHB_2.out.size; have NE_a0 := Lib.hid (Nat.ne_of_lt KK_a0_2.out.lt); have NE_a1 := Lib.hid (Nat.ne_of_lt KK_a1_2.out.lt)) | skip
           have T9 : HeldL u3 (W.heap.size) [.bool s0, .slice a0 len0 cap0, .slice a0b len0b cap0b] := by first | exact KK_a0_2.out.after hb | exact (KK_a0_2.out.alloc (.cells #[.bool false, .slice none 0 0, .slice none 0 0] 30)).after hb
           have KK_a0_3 := Lib.hid T9
           clear T9
           have T9 : HeldL u3 (W.heap.size + 1) [.bool s1, .slice a1 len1 cap1, .slice a1b len1b cap1b] := by first | exact KK_a1_2.out.after hb | exact (KK_a1_2.out.alloc (.cells #[.bool false, .slice none 0 0, .slice none 0 0] 30)).after hb
           have KK_a1_3 := Lib.hid T9
           clear T9
           have T9 : OwnV u3 W.heap.size 3 (.slice A_t0 len0 c_t0) (ints z0) := by first | exact OwnV.below (w := u2) HH_t0_2.out hb | exact OwnV.below (w := (u2.alloc (.cells #[.bool false, .slice none 0 0, .slice none 0 0] 30))) (OwnV.below HH_t0_2.out ((Below.refl _ u2).alloc (Nat.le_refl _) (.cells #[.bool false, .slice none 0 0, .slice none 0 0] 30))) hb
           have HH_t0_3 := Lib.hid T9
           clear T9
           have T9 : OwnV u3 W.heap.size 3 (.slice A_t0b len0b c_t0b) (ints z0b) := by first | exact OwnV.below (w := u2) HH_t0b_2.out hb | exact OwnV.below (w := (u2.alloc (.cells #[.bool false, .slice none 0 0, .slice none 0 0] 30))) (OwnV.below HH_t0b_2.out ((Below.refl _ u2).alloc (Nat.le_refl _) (.cells #[.bool false, .slice none 0 0, .slice none 0 0] 30))) hb
           have HH_t0b_3 := Lib.hid T9
           clear T9
           have T9 : OwnV u3 W.heap.size 3 (.slice A_t1 len1 c_t1) (ints z1) := by first | exact OwnV.below (w := u2) HH_t1_2.out hb | exact OwnV.below (w := (u2.alloc (.cells #[.bool false, .slice none 0 0, .slice none 0 0] 30))) (OwnV.below HH_t1_2.out ((Below.refl _ u2).alloc (Nat.le_refl _) (.cells #[.bool false, .slice none 0 0, .slice none 0 0] 30))) hb
           have HH_t1_3 := Lib.hid T9
           clear T9
           have T9 : OwnV u3 W.heap.size 3 (.slice A_t1b len1b c_t1b) (ints z1b) := by first | exact OwnV.below (w := u2) HH_t1b_2.out hb | exact OwnV.below (w := (u2.alloc (.cells #[.bool false, .slice none 0 0, .slice none 0 0] 30))) (OwnV.below HH_t1b_2.out ((Below.refl _ u2).alloc (Nat.le_refl _) (.cells #[.bool false, .slice none 0 0, .slice none 0 0] 30))) hb
           have HH_t1b_3 := Lib.hid T9
           clear T9
           have HOn := Lib.hid ho0
           have T9 : OwnV u3 W.heap.size 3 (.slice A_n n0 c_n) (ints R0) := by first | exact ho0.based HHB_2.out.size | exact ho0.based (HHB_2.out.alloc HHB_2.out.size (.cells #[.bool false, .slice none 0 0, .slice none 0 0] 30)).size
           have HH_n := Lib.hid T9
           clear T9 ho0
           have HOnb := Lib.hid ho1
           have T9 : OwnV u3 W.heap.size 3 (.slice A_nb n0b c_nb) (ints R0b) := by first | exact ho1.based HHB_2.out.size | exact ho1.based (HHB_2.out.alloc HHB_2.out.size (.cells #[.bool false, .slice none 0 0, .slice none 0 0] 30)).size
           have HH_nb := Lib.hid T9
           clear T9 ho1
           have T9 : Below W.heap.size W u3 := by first | exact (HHB_2.out).trans (hb.mono (HHB_2.out).size) | exact ((HHB_2.out.alloc HHB_2.out.size (.cells #[.bool false, .slice none 0 0, .slice none 0 0] 30))).trans (hb.mono ((HHB_2.out.alloc HHB_2.out.size (.cells #[.bool false, .slice none 0 0, .slice none 0 0] 30))).size)
           have HHB_3 := Lib.hid T9
           clear T9 hb
           have hka0_0_3 := KK_a0_3.out.cell 0 _ rfl
           have hka0_1_3 := KK_a0_3.out.cell 1 _ rfl
           have hka0_2_3 := KK_a0_3.out.cell 2 _ rfl
           have hka1_0_3 := KK_a1_3.out.cell 0 _ rfl
           have hka1_1_3 := KK_a1_3.out.cell 1 _ rfl
           have hka1_2_3 := KK_a1_3.out.cell 2 _ rfl
           try have hkn0 := KN3.out.cell 0 _ rfl
           try have hkf0 := KN3.out.froz 0 _ rfl
           try have hkn1 := KN3.out.cell 1 _ rfl
           try have hkf1 := KN3.out.froz 1 _ rfl
           try have hkn2 := KN3.out.cell 2 _ rfl
           try have hkf2 := KN3.out.froz 2 _ rfl
           try have hne0 := NE_a0.out
           try have hnf0 := NE_a0.out.symm
           try have hne1 := NE_a1.out
           try have hnf1 := NE_a1.out.symm))
    all_goals go_wp2_with fail
    all_goals go_meet
    all_goals refine ⟨_, A_n, A_nb, c_n, c_nb, rfl, ?_, ?_, ?_, ?_, ?_, ?_, ?_, ?_⟩
    all_goals first
      | exact HeldL.new u3 _ _
      | exact (((KN3.out.set 0 _ _ rfl).set 1 _ _ rfl).set 2 _ _ rfl)
      | exact Hap01.out
      | exact Hap10.out
      | exact OwnV.below HH_n.out ((Below.refl _ u3).alloc (Nat.le_refl _) _)
      | exact (((HOn.out.setBelow HLN3.out _).setBelow HLN3.out _).setBelow HLN3.out _).based (Nat.le_trans HGN.out (Nat.le_of_lt HLN3.out))
      | exact OwnV.below HH_nb.out ((Below.refl _ u3).alloc (Nat.le_refl _) _)
      | exact (((HOnb.out.setBelow HLN3.out _).setBelow HLN3.out _).setBelow HLN3.out _).based (Nat.le_trans HGN.out (Nat.le_of_lt HLN3.out))
      | exact KK_a0_3.out.alloc _
      | exact (((KK_a0_3.out.setOther NE_a0.out _).setOther NE_a0.out _).setOther NE_a0.out _)
      | exact KK_a1_3.out.alloc _
      | exact (((KK_a1_3.out.setOther NE_a1.out _).setOther NE_a1.out _).setOther NE_a1.out _)
      | exact HHB_3.out.alloc HHB_3.out.size _
      | exact (((HHB_3.out.setCell HGN.out _).setCell HGN.out _).setCell HGN.out _)
  clear hk_a0_0_2
  clear hk_a0_1_2
  clear hk_a0_2_2
  clear hk_a1_0_2
  clear hk_a1_1_2
  clear hk_a1_2_2
  clear K_a0_2
  clear K_a1_2
  clear HB_2
  obtain ⟨b_w0, A_w0, A_w0b, c_w0, c_w0b, rfl, hkn, hon, honb, hap__b, hap_b_, hk_a0, hk_a1, hbw⟩ := hcut
  have K_w0_3 := Lib.hid hkn
  clear hkn
  have H_w0_3 := Lib.hid hon
  clear hon
  have H_w0b_3 := Lib.hid honb
  clear honb
  have AP_w0_w0b := Lib.hid hap__b
  clear hap__b
  have AP_w0b_w0 := Lib.hid hap_b_
  clear hap_b_
  have K_a0_3 := Lib.hid hk_a0
  clear hk_a0
  have K_a1_3 := Lib.hid hk_a1
  clear hk_a1
  have HB_3 := Lib.hid hbw
  clear hbw
  have hk_a0_0_3 := K_a0_3.out.cell 0 _ rfl
  have hk_a0_1_3 := K_a0_3.out.cell 1 _ rfl
  have hk_a0_2_3 := K_a0_3.out.cell 2 _ rfl
  go_wp2_with fail
  refine (toRat_any s0 a0 len0 cap0 z0 a0b len0b cap0b z0b _ (HA0.out.below HB_3.out (Nat.le_refl _)) (HA0b.out.below HB_3.out (Nat.le_refl _)) (by omega) (by omega)).mono ?_
  rintro e w3 ⟨v_x0, v_x0b, rfl, ho_x0, ho_x0b, ap01, ap10, hb⟩
  obtain ⟨A_x0, c_x0, hv⟩ := ho_x0.shape
  rw [HZ0.out] at hv
  subst hv
  obtain ⟨A_x0b, c_x0b, hv⟩ := ho_x0b.shape
  rw [HZ0b.out] at hv
  subst hv
  have AP_x0_x0b := Lib.hid ap01
  clear ap01
  have AP_x0b_x0 := Lib.hid ap10
  clear ap10
  have AP_w0_x0 := Lib.hid (OwnV.apart H_w0_3.out ho_x0 (Nat.le_refl _))
  have AP_x0_w0 := Lib.hid (OwnV.apart' ho_x0 H_w0_3.out (Nat.le_refl _))
  have AP_w0b_x0 := Lib.hid (OwnV.apart H_w0b_3.out ho_x0 (Nat.le_refl _))
  have AP_x0_w0b := Lib.hid (OwnV.apart' ho_x0 H_w0b_3.out (Nat.le_refl _))
  have BN_a0_x0 := Lib.hid (OwnV.bn ho_x0 K_a0_3.out.lt)
  have BN_a1_x0 := Lib.hid (OwnV.bn ho_x0 K_a1_3.out.lt)
  have BN_w0_x0 := Lib.hid (OwnV.bn ho_x0 K_w0_3.out.lt)
  have H_x0_0 := Lib.hid (ho_x0.based HB_3.out.size)
  clear ho_x0
  have AP_w0_x0b := Lib.hid (OwnV.apart H_w0_3.out ho_x0b (Nat.le_refl _))
  have AP_x0b_w0 := Lib.hid (OwnV.apart' ho_x0b H_w0_3.out (Nat.le_refl _))
  have AP_w0b_x0b := Lib.hid (OwnV.apart H_w0b_3.out ho_x0b (Nat.le_refl _))
  have AP_x0b_w0b := Lib.hid (OwnV.apart' ho_x0b H_w0b_3.out (Nat.le_refl _))
  have BN_a0_x0b := Lib.hid (OwnV.bn ho_x0b K_a0_3.out.lt)
  have BN_a1_x0b := Lib.hid (OwnV.bn ho_x0b K_a1_3.out.lt)
  have BN_w0_x0b := Lib.hid (OwnV.bn ho_x0b K_w0_3.out.lt)
  have H_x0b_0 := Lib.hid (ho_x0b.based HB_3.out.size)
  clear ho_x0b
  have K_a0_4 := Lib.hid (K_a0_3.out.after hb)
  clear K_a0_3
  have K_a1_4 := Lib.hid (K_a1_3.out.after hb)
  clear K_a1_3
  have K_w0_4 := Lib.hid (K_w0_3.out.after hb)
  clear K_w0_3
  have H_w0_4 := Lib.hid (OwnV.below (w := wc) H_w0_3.out hb)
  clear H_w0_3
  have H_w0b_4 := Lib.hid (OwnV.below (w := wc) H_w0b_3.out hb)
  clear H_w0b_3
  have HB_4 := Lib.hid (HB_3.out.trans (hb.mono HB_3.out.size))
  clear hb HB_3
  clear hk_a0_0_3
  clear hk_a0_1_3
  clear hk_a0_2_3
  have K_a0_5 := Lib.hid (K_a0_4.out.alloc (.cells #[.bool s0, .slice A_x0 len0 c_x0, .slice A_x0b len0b c_x0b] 30))
  clear K_a0_4
  have K_a1_5 := Lib.hid (K_a1_4.out.alloc (.cells #[.bool s0, .slice A_x0 len0 c_x0, .slice A_x0b len0b c_x0b] 30))
  clear K_a1_4
  have K_w0_5 := Lib.hid (K_w0_4.out.alloc (.cells #[.bool s0, .slice A_x0 len0 c_x0, .slice A_x0b len0b c_x0b] 30))
  clear K_w0_4
  have K_x0_5 := Lib.hid (HeldL.new w3 [.bool s0, .slice A_x0 len0 c_x0, .slice A_x0b len0b c_x0b] 30)
  have H_w0_5 := Lib.hid (OwnV.below H_w0_4.out ((Below.refl _ w3).alloc (Nat.le_refl _) (.cells #[.bool s0, .slice A_x0 len0 c_x0, .slice A_x0b len0b c_x0b] 30)))
  clear H_w0_4
  have H_w0b_5 := Lib.hid (OwnV.below H_w0b_4.out ((Below.refl _ w3).alloc (Nat.le_refl _) (.cells #[.bool s0, .slice A_x0 len0 c_x0, .slice A_x0b len0b c_x0b] 30)))
  clear H_w0b_4
  have BN_x0_x0 := Lib.hid (OwnV.bn_new H_x0_0.out)
  have H_x0_5 := Lib.hid (OwnV.below H_x0_0.out ((Below.refl _ w3).alloc (Nat.le_refl _) (.cells #[.bool s0, .slice A_x0 len0 c_x0, .slice A_x0b len0b c_x0b] 30)))
  clear H_x0_0
  have BN_x0_x0b := Lib.hid (OwnV.bn_new H_x0b_0.out)
  have H_x0b_5 := Lib.hid (OwnV.below H_x0b_0.out ((Below.refl _ w3).alloc (Nat.le_refl _) (.cells #[.bool s0, .slice A_x0 len0 c_x0, .slice A_x0b len0b c_x0b] 30)))
  clear H_x0b_0
  have HB_5 := Lib.hid (HB_4.out.alloc HB_4.out.size (.cells #[.bool s0, .slice A_x0 len0 c_x0, .slice A_x0b len0b c_x0b] 30))
  clear HB_4
  have hk_a1_0_5 := K_a1_5.out.cell 0 _ rfl
  have hk_a1_1_5 := K_a1_5.out.cell 1 _ rfl
  have hk_a1_2_5 := K_a1_5.out.cell 2 _ rfl
  go_wp2_with fail
  refine (toRat_any s1 a1 len1 cap1 z1 a1b len1b cap1b z1b _ (HA1.out.below HB_5.out (Nat.le_refl _)) (HA1b.out.below HB_5.out (Nat.le_refl _)) (by omega) (by omega)).mono ?_
  rintro e w4 ⟨v_x1, v_x1b, rfl, ho_x1, ho_x1b, ap01, ap10, hb⟩
  obtain ⟨A_x1, c_x1, hv⟩ := ho_x1.shape
  rw [HZ1.out] at hv
  subst hv
  obtain ⟨A_x1b, c_x1b, hv⟩ := ho_x1b.shape
  rw [HZ1b.out] at hv
  subst hv
  have AP_x1_x1b := Lib.hid ap01
  clear ap01
  have AP_x1b_x1 := Lib.hid ap10
  clear ap10
  have AP_w0_x1 := Lib.hid (OwnV.apart H_w0_5.out ho_x1 (Nat.le_refl _))
  have AP_x1_w0 := Lib.hid (OwnV.apart' ho_x1 H_w0_5.out (Nat.le_refl _))
  have AP_w0b_x1 := Lib.hid (OwnV.apart H_w0b_5.out ho_x1 (Nat.le_refl _))
  have AP_x1_w0b := Lib.hid (OwnV.apart' ho_x1 H_w0b_5.out (Nat.le_refl _))
  have AP_x0_x1 := Lib.hid (OwnV.apart H_x0_5.out ho_x1 (Nat.le_refl _))
  have AP_x1_x0 := Lib.hid (OwnV.apart' ho_x1 H_x0_5.out (Nat.le_refl _))
  have AP_x0b_x1 := Lib.hid (OwnV.apart H_x0b_5.out ho_x1 (Nat.le_refl _))
  have AP_x1_x0b := Lib.hid (OwnV.apart' ho_x1 H_x0b_5.out (Nat.le_refl _))
  have BN_a0_x1 := Lib.hid (OwnV.bn ho_x1 K_a0_5.out.lt)
  have BN_a1_x1 := Lib.hid (OwnV.bn ho_x1 K_a1_5.out.lt)
  have BN_w0_x1 := Lib.hid (OwnV.bn ho_x1 K_w0_5.out.lt)
  have BN_x0_x1 := Lib.hid (OwnV.bn ho_x1 K_x0_5.out.lt)
  have H_x1_0 := Lib.hid (ho_x1.based HB_5.out.size)
  clear ho_x1
  have AP_w0_x1b := Lib.hid (OwnV.apart H_w0_5.out ho_x1b (Nat.le_refl _))
  have AP_x1b_w0 := Lib.hid (OwnV.apart' ho_x1b H_w0_5.out (Nat.le_refl _))
  have AP_w0b_x1b := Lib.hid (OwnV.apart H_w0b_5.out ho_x1b (Nat.le_refl _))
  have AP_x1b_w0b := Lib.hid (OwnV.apart' ho_x1b H_w0b_5.out (Nat.le_refl _))
  have AP_x0_x1b := Lib.hid (OwnV.apart H_x0_5.out ho_x1b (Nat.le_refl _))
  have AP_x1b_x0 := Lib.hid (OwnV.apart' ho_x1b H_x0_5.out (Nat.le_refl _))
  have AP_x0b_x1b := Lib.hid (OwnV.apart H_x0b_5.out ho_x1b (Nat.le_refl _))
  have AP_x1b_x0b := Lib.hid (OwnV.apart' ho_x1b H_x0b_5.out (Nat.le_refl _))
  have BN_a0_x1b := Lib.hid (OwnV.bn ho_x1b K_a0_5.out.lt)
  have BN_a1_x1b := Lib.hid (OwnV.bn ho_x1b K_a1_5.out.lt)
  have BN_w0_x1b := Lib.hid (OwnV.bn ho_x1b K_w0_5.out.lt)
  have BN_x0_x1b := Lib.hid (OwnV.bn ho_x1b K_x0_5.out.lt)
  have H_x1b_0 := Lib.hid (ho_x1b.based HB_5.out.size)
  clear ho_x1b
  have K_a0_6 := Lib.hid (K_a0_5.out.after hb)
  clear K_a0_5
  have K_a1_6 := Lib.hid (K_a1_5.out.after hb)
  clear K_a1_5
  have K_w0_6 := Lib.hid (K_w0_5.out.after hb)
  clear K_w0_5
  have K_x0_6 := Lib.hid (K_x0_5.out.after hb)
  clear K_x0_5
  have H_w0_6 := Lib.hid (OwnV.below (w := (w3.alloc (.cells #[.bool s0, .slice A_x0 len0 c_x0, .slice A_x0b len0b c_x0b] 30))) H_w0_5.out hb)
  clear H_w0_5
  have H_w0b_6 := Lib.hid (OwnV.below (w := (w3.alloc (.cells #[.bool s0, .slice A_x0 len0 c_x0, .slice A_x0b len0b c_x0b] 30))) H_w0b_5.out hb)
  clear H_w0b_5
  have H_x0_6 := Lib.hid (OwnV.below (w := (w3.alloc (.cells #[.bool s0, .slice A_x0 len0 c_x0, .slice A_x0b len0b c_x0b] 30))) H_x0_5.out hb)
  clear H_x0_5
  have H_x0b_6 := Lib.hid (OwnV.below (w := (w3.alloc (.cells #[.bool s0, .slice A_x0 len0 c_x0, .slice A_x0b len0b c_x0b] 30))) H_x0b_5.out hb)
  clear H_x0b_5
  have HB_6 := Lib.hid (HB_5.out.trans (hb.mono HB_5.out.size))
  clear hb HB_5
  clear hk_a1_0_5
  clear hk_a1_1_5
  clear hk_a1_2_5
  have K_a0_7 := Lib.hid (K_a0_6.out.alloc (.cells #[.bool s1, .slice A_x1 len1 c_x1, .slice A_x1b len1b c_x1b] 30))
  clear K_a0_6
  have K_a1_7 := Lib.hid (K_a1_6.out.alloc (.cells #[.bool s1, .slice A_x1 len1 c_x1, .slice A_x1b len1b c_x1b] 30))
  clear K_a1_6
  have K_w0_7 := Lib.hid (K_w0_6.out.alloc (.cells #[.bool s1, .slice A_x1 len1 c_x1, .slice A_x1b len1b c_x1b] 30))
  clear K_w0_6
  have K_x0_7 := Lib.hid (K_x0_6.out.alloc (.cells #[.bool s1, .slice A_x1 len1 c_x1, .slice A_x1b len1b c_x1b] 30))
  clear K_x0_6
  have K_x1_7 := Lib.hid (HeldL.new w4 [.bool s1, .slice A_x1 len1 c_x1, .slice A_x1b len1b c_x1b] 30)
  have H_w0_7 := Lib.hid (OwnV.below H_w0_6.out ((Below.refl _ w4).alloc (Nat.le_refl _) (.cells #[.bool s1, .slice A_x1 len1 c_x1, .slice A_x1b len1b c_x1b] 30)))
  clear H_w0_6
  have H_w0b_7 := Lib.hid (OwnV.below H_w0b_6.out ((Below.refl _ w4).alloc (Nat.le_refl _) (.cells #[.bool s1, .slice A_x1 len1 c_x1, .slice A_x1b len1b c_x1b] 30)))
  clear H_w0b_6
  have BN_x1_x0 := Lib.hid (OwnV.bn_new H_x0_6.out)
  have H_x0_7 := Lib.hid (OwnV.below H_x0_6.out ((Below.refl _ w4).alloc (Nat.le_refl _) (.cells #[.bool s1, .slice A_x1 len1 c_x1, .slice A_x1b len1b c_x1b] 30)))
  clear H_x0_6
  have BN_x1_x0b := Lib.hid (OwnV.bn_new H_x0b_6.out)
  have H_x0b_7 := Lib.hid (OwnV.below H_x0b_6.out ((Below.refl _ w4).alloc (Nat.le_refl _) (.cells #[.bool s1, .slice A_x1 len1 c_x1, .slice A_x1b len1b c_x1b] 30)))
  clear H_x0b_6
  have BN_x1_x1 := Lib.hid (OwnV.bn_new H_x1_0.out)
  have H_x1_7 := Lib.hid (OwnV.below H_x1_0.out ((Below.refl _ w4).alloc (Nat.le_refl _) (.cells #[.bool s1, .slice A_x1 len1 c_x1, .slice A_x1b len1b c_x1b] 30)))
  clear H_x1_0
  have BN_x1_x1b := Lib.hid (OwnV.bn_new H_x1b_0.out)
  have H_x1b_7 := Lib.hid (OwnV.below H_x1b_0.out ((Below.refl _ w4).alloc (Nat.le_refl _) (.cells #[.bool s1, .slice A_x1 len1 c_x1, .slice A_x1b len1b c_x1b] 30)))
  clear H_x1b_0
  have HB_7 := Lib.hid (HB_6.out.alloc HB_6.out.size (.cells #[.bool s1, .slice A_x1 len1 c_x1, .slice A_x1b len1b c_x1b] 30))
  clear HB_6
  have hk_x0_0_7 := K_x0_7.out.cell 0 _ rfl
  have hk_x0_1_7 := K_x0_7.out.cell 1 _ rfl
  have hk_x0_2_7 := K_x0_7.out.cell 2 _ rfl
  have hk_x1_0_7 := K_x1_7.out.cell 0 _ rfl
  have hk_x1_1_7 := K_x1_7.out.cell 1 _ rfl
  have hk_x1_2_7 := K_x1_7.out.cell 2 _ rfl
  go_wp2_with fail
  refine (ratDiv_impl s0 A_x0 len0 c_x0 z0 A_x0b len0b c_x0b z0b s1 A_x1 len1 c_x1 z1 A_x1b len1b c_x1b z1b _ H_x0_7.out.arg H_x0b_7.out.arg H_x1_7.out.arg H_x1b_7.out.arg).mono ?_
  rintro e w5 ⟨v_g0, v_g0b, rfl, ho_g0, ho_g0b, ap01, ap10, hb⟩
  rw [HS0.out]
  rw [HR0.out] at ho_g0
  obtain ⟨A_g0, c_g0, hv⟩ := ho_g0.shape
  rw [HN0.out] at hv
  subst hv
  rw [HR0b.out] at ho_g0b
  obtain ⟨A_g0b, c_g0b, hv⟩ := ho_g0b.shape
  rw [HN0b.out] at hv
  subst hv
  have AP_g0_g0b := Lib.hid ap01
  clear ap01
  have AP_g0b_g0 := Lib.hid ap10
  clear ap10
  have AP_w0_g0 := Lib.hid (OwnV.apart H_w0_7.out ho_g0 (Nat.le_refl _))
  have AP_g0_w0 := Lib.hid (OwnV.apart' ho_g0 H_w0_7.out (Nat.le_refl _))
  have AP_w0b_g0 := Lib.hid (OwnV.apart H_w0b_7.out ho_g0 (Nat.le_refl _))
  have AP_g0_w0b := Lib.hid (OwnV.apart' ho_g0 H_w0b_7.out (Nat.le_refl _))
  have AP_x0_g0 := Lib.hid (OwnV.apart H_x0_7.out ho_g0 (Nat.le_refl _))
  have AP_g0_x0 := Lib.hid (OwnV.apart' ho_g0 H_x0_7.out (Nat.le_refl _))
  have AP_x0b_g0 := Lib.hid (OwnV.apart H_x0b_7.out ho_g0 (Nat.le_refl _))
  have AP_g0_x0b := Lib.hid (OwnV.apart' ho_g0 H_x0b_7.out (Nat.le_refl _))
  have AP_x1_g0 := Lib.hid (OwnV.apart H_x1_7.out ho_g0 (Nat.le_refl _))
  have AP_g0_x1 := Lib.hid (OwnV.apart' ho_g0 H_x1_7.out (Nat.le_refl _))
  have AP_x1b_g0 := Lib.hid (OwnV.apart H_x1b_7.out ho_g0 (Nat.le_refl _))
  have AP_g0_x1b := Lib.hid (OwnV.apart' ho_g0 H_x1b_7.out (Nat.le_refl _))
  have BN_a0_g0 := Lib.hid (OwnV.bn ho_g0 K_a0_7.out.lt)
  have BN_a1_g0 := Lib.hid (OwnV.bn ho_g0 K_a1_7.out.lt)
  have BN_w0_g0 := Lib.hid (OwnV.bn ho_g0 K_w0_7.out.lt)
  have BN_x0_g0 := Lib.hid (OwnV.bn ho_g0 K_x0_7.out.lt)
  have BN_x1_g0 := Lib.hid (OwnV.bn ho_g0 K_x1_7.out.lt)
  have H_g0_0 := Lib.hid (ho_g0.based HB_7.out.size)
  clear ho_g0
  have AP_w0_g0b := Lib.hid (OwnV.apart H_w0_7.out ho_g0b (Nat.le_refl _))
  have AP_g0b_w0 := Lib.hid (OwnV.apart' ho_g0b H_w0_7.out (Nat.le_refl _))
  have AP_w0b_g0b := Lib.hid (OwnV.apart H_w0b_7.out ho_g0b (Nat.le_refl _))
  have AP_g0b_w0b := Lib.hid (OwnV.apart' ho_g0b H_w0b_7.out (Nat.le_refl _))
  have AP_x0_g0b := Lib.hid (OwnV.apart H_x0_7.out ho_g0b (Nat.le_refl _))
  have AP_g0b_x0 := Lib.hid (OwnV.apart' ho_g0b H_x0_7.out (Nat.le_refl _))
  have AP_x0b_g0b := Lib.hid (OwnV.apart H_x0b_7.out ho_g0b (Nat.le_refl _))
  have AP_g0b_x0b := Lib.hid (OwnV.apart' ho_g0b H_x0b_7.out (Nat.le_refl _))
  have AP_x1_g0b := Lib.hid (OwnV.apart H_x1_7.out ho_g0b (Nat.le_refl _))
  have AP_g0b_x1 := Lib.hid (OwnV.apart' ho_g0b H_x1_7.out (Nat.le_refl _))
  have AP_x1b_g0b := Lib.hid (OwnV.apart H_x1b_7.out ho_g0b (Nat.le_refl _))
  have AP_g0b_x1b := Lib.hid (OwnV.apart' ho_g0b H_x1b_7.out (Nat.le_refl _))
  have BN_a0_g0b := Lib.hid (OwnV.bn ho_g0b K_a0_7.out.lt)
  have BN_a1_g0b := Lib.hid (OwnV.bn ho_g0b K_a1_7.out.lt)
  have BN_w0_g0b := Lib.hid (OwnV.bn ho_g0b K_w0_7.out.lt)
  have BN_x0_g0b := Lib.hid (OwnV.bn ho_g0b K_x0_7.out.lt)
  have BN_x1_g0b := Lib.hid (OwnV.bn ho_g0b K_x1_7.out.lt)
  have H_g0b_0 := Lib.hid (ho_g0b.based HB_7.out.size)
  clear ho_g0b
  have K_a0_8 := Lib.hid (K_a0_7.out.after hb)
  clear K_a0_7
  have K_a1_8 := Lib.hid (K_a1_7.out.after hb)
  clear K_a1_7
  have K_w0_8 := Lib.hid (K_w0_7.out.after hb)
  clear K_w0_7
  have K_x0_8 := Lib.hid (K_x0_7.out.after hb)
  clear K_x0_7
  have K_x1_8 := Lib.hid (K_x1_7.out.after hb)
  clear K_x1_7
  have H_w0_8 := Lib.hid (OwnV.below (w := (w4.alloc (.cells #[.bool s1, .slice A_x1 len1 c_x1, .slice A_x1b len1b c_x1b] 30))) H_w0_7.out hb)
  clear H_w0_7
  have H_w0b_8 := Lib.hid (OwnV.below (w := (w4.alloc (.cells #[.bool s1, .slice A_x1 len1 c_x1, .slice A_x1b len1b c_x1b] 30))) H_w0b_7.out hb)
  clear H_w0b_7
  have H_x0_8 := Lib.hid (OwnV.below (w := (w4.alloc (.cells #[.bool s1, .slice A_x1 len1 c_x1, .slice A_x1b len1b c_x1b] 30))) H_x0_7.out hb)
  clear H_x0_7
  have H_x0b_8 := Lib.hid (OwnV.below (w := (w4.alloc (.cells #[.bool s1, .slice A_x1 len1 c_x1, .slice A_x1b len1b c_x1b] 30))) H_x0b_7.out hb)
  clear H_x0b_7
  have H_x1_8 := Lib.hid (OwnV.below (w := (w4.alloc (.cells #[.bool s1, .slice A_x1 len1 c_x1, .slice A_x1b len1b c_x1b] 30))) H_x1_7.out hb)
  clear H_x1_7
  have H_x1b_8 := Lib.hid (OwnV.below (w := (w4.alloc (.cells #[.bool s1, .slice A_x1 len1 c_x1, .slice A_x1b len1b c_x1b] 30))) H_x1b_7.out hb)
  clear H_x1b_7
  have HB_8 := Lib.hid (HB_7.out.trans (hb.mono HB_7.out.size))
  clear hb HB_7
  have K_a0_9 := Lib.hid (K_a0_8.out.alloc (.cells #[.bool RS0, .slice A_g0 n0 c_g0, .slice A_g0b n0b c_g0b] 30))
  clear K_a0_8
  have K_a1_9 := Lib.hid (K_a1_8.out.alloc (.cells #[.bool RS0, .slice A_g0 n0 c_g0, .slice A_g0b n0b c_g0b] 30))
  clear K_a1_8
  have K_w0_9 := Lib.hid (K_w0_8.out.alloc (.cells #[.bool RS0, .slice A_g0 n0 c_g0, .slice A_g0b n0b c_g0b] 30))
  clear K_w0_8
  have K_x0_9 := Lib.hid (K_x0_8.out.alloc (.cells #[.bool RS0, .slice A_g0 n0 c_g0, .slice A_g0b n0b c_g0b] 30))
  clear K_x0_8
  have K_x1_9 := Lib.hid (K_x1_8.out.alloc (.cells #[.bool RS0, .slice A_g0 n0 c_g0, .slice A_g0b n0b c_g0b] 30))
  clear K_x1_8
  have K_g0_9 := Lib.hid (HeldL.new w5 [.bool RS0, .slice A_g0 n0 c_g0, .slice A_g0b n0b c_g0b] 30)
  have H_w0_9 := Lib.hid (OwnV.below H_w0_8.out ((Below.refl _ w5).alloc (Nat.le_refl _) (.cells #[.bool RS0, .slice A_g0 n0 c_g0, .slice A_g0b n0b c_g0b] 30)))
  clear H_w0_8
  have H_w0b_9 := Lib.hid (OwnV.below H_w0b_8.out ((Below.refl _ w5).alloc (Nat.le_refl _) (.cells #[.bool RS0, .slice A_g0 n0 c_g0, .slice A_g0b n0b c_g0b] 30)))
  clear H_w0b_8
  have BN_g0_x0 := Lib.hid (OwnV.bn_new H_x0_8.out)
  have H_x0_9 := Lib.hid (OwnV.below H_x0_8.out ((Below.refl _ w5).alloc (Nat.le_refl _) (.cells #[.bool RS0, .slice A_g0 n0 c_g0, .slice A_g0b n0b c_g0b] 30)))
  clear H_x0_8
  have BN_g0_x0b := Lib.hid (OwnV.bn_new H_x0b_8.out)
  have H_x0b_9 := Lib.hid (OwnV.below H_x0b_8.out ((Below.refl _ w5).alloc (Nat.le_refl _) (.cells #[.bool RS0, .slice A_g0 n0 c_g0, .slice A_g0b n0b c_g0b] 30)))
  clear H_x0b_8
  have BN_g0_x1 := Lib.hid (OwnV.bn_new H_x1_8.out)
  have H_x1_9 := Lib.hid (OwnV.below H_x1_8.out ((Below.refl _ w5).alloc (Nat.le_refl _) (.cells #[.bool RS0, .slice A_g0 n0 c_g0, .slice A_g0b n0b c_g0b] 30)))
  clear H_x1_8
  have BN_g0_x1b := Lib.hid (OwnV.bn_new H_x1b_8.out)
  have H_x1b_9 := Lib.hid (OwnV.below H_x1b_8.out ((Below.refl _ w5).alloc (Nat.le_refl _) (.cells #[.bool RS0, .slice A_g0 n0 c_g0, .slice A_g0b n0b c_g0b] 30)))
  clear H_x1b_8
  have BN_g0_g0 := Lib.hid (OwnV.bn_new H_g0_0.out)
  have H_g0_9 := Lib.hid (OwnV.below H_g0_0.out ((Below.refl _ w5).alloc (Nat.le_refl _) (.cells #[.bool RS0, .slice A_g0 n0 c_g0, .slice A_g0b n0b c_g0b] 30)))
  clear H_g0_0
  have BN_g0_g0b := Lib.hid (OwnV.bn_new H_g0b_0.out)
  have H_g0b_9 := Lib.hid (OwnV.below H_g0b_0.out ((Below.refl _ w5).alloc (Nat.le_refl _) (.cells #[.bool RS0, .slice A_g0 n0 c_g0, .slice A_g0b n0b c_g0b] 30)))
  clear H_g0b_0
  have HB_9 := Lib.hid (HB_8.out.alloc HB_8.out.size (.cells #[.bool RS0, .slice A_g0 n0 c_g0, .slice A_g0b n0b c_g0b] 30))
  clear HB_8
  clear hk_x0_0_7
  clear hk_x0_1_7
  clear hk_x0_2_7
  clear hk_x1_0_7
  clear hk_x1_1_7
  clear hk_x1_2_7
  have hk_g0_0_9 := K_g0_9.out.cell 0 _ rfl
  have hk_g0_1_9 := K_g0_9.out.cell 1 _ rfl
  have hk_g0_2_9 := K_g0_9.out.cell 2 _ rfl
  have hk_w0_0_9 := K_w0_9.out.cell 0 _ rfl
  have hk_w0_1_9 := K_w0_9.out.cell 1 _ rfl
  have hk_w0_2_9 := K_w0_9.out.cell 2 _ rfl
  go_wp2_with fail
  refine (eqRat_same RS0 A_g0 A_w0 n0 c_g0 c_w0 R0 A_g0b A_w0b n0b c_g0b c_w0b R0b _ H_g0_9.out.row H_w0_9.out.row H_g0b_9.out.row H_w0b_9.out.row (by unfold maxLen; omega) (by unfold maxLen; omega)).mono ?_
  rintro e w6 ⟨rfl, hb⟩
  have K_a0_10 := Lib.hid (K_a0_9.out.after hb)
  clear K_a0_9
  have K_a1_10 := Lib.hid (K_a1_9.out.after hb)
  clear K_a1_9
  have K_w0_10 := Lib.hid (K_w0_9.out.after hb)
  clear K_w0_9
  have K_x0_10 := Lib.hid (K_x0_9.out.after hb)
  clear K_x0_9
  have K_x1_10 := Lib.hid (K_x1_9.out.after hb)
  clear K_x1_9
  have K_g0_10 := Lib.hid (K_g0_9.out.after hb)
  clear K_g0_9
  have H_w0_10 := Lib.hid (OwnV.below (w := (w5.alloc (.cells #[.bool RS0, .slice A_g0 n0 c_g0, .slice A_g0b n0b c_g0b] 30))) H_w0_9.out hb)
  clear H_w0_9
  have H_w0b_10 := Lib.hid (OwnV.below (w := (w5.alloc (.cells #[.bool RS0, .slice A_g0 n0 c_g0, .slice A_g0b n0b c_g0b] 30))) H_w0b_9.out hb)
  clear H_w0b_9
  have H_x0_10 := Lib.hid (OwnV.below (w := (w5.alloc (.cells #[.bool RS0, .slice A_g0 n0 c_g0, .slice A_g0b n0b c_g0b] 30))) H_x0_9.out hb)
  clear H_x0_9
  have H_x0b_10 := Lib.hid (OwnV.below (w := (w5.alloc (.cells #[.bool RS0, .slice A_g0 n0 c_g0, .slice A_g0b n0b c_g0b] 30))) H_x0b_9.out hb)
  clear H_x0b_9
  have H_x1_10 := Lib.hid (OwnV.below (w := (w5.alloc (.cells #[.bool RS0, .slice A_g0 n0 c_g0, .slice A_g0b n0b c_g0b] 30))) H_x1_9.out hb)
  clear H_x1_9
  have H_x1b_10 := Lib.hid (OwnV.below (w := (w5.alloc (.cells #[.bool RS0, .slice A_g0 n0 c_g0, .slice A_g0b n0b c_g0b] 30))) H_x1b_9.out hb)
  clear H_x1b_9
  have H_g0_10 := Lib.hid (OwnV.below (w := (w5.alloc (.cells #[.bool RS0, .slice A_g0 n0 c_g0, .slice A_g0b n0b c_g0b] 30))) H_g0_9.out hb)
  clear H_g0_9
  have H_g0b_10 := Lib.hid (OwnV.below (w := (w5.alloc (.cells #[.bool RS0, .slice A_g0 n0 c_g0, .slice A_g0b n0b c_g0b] 30))) H_g0b_9.out hb)
  clear H_g0b_9
  have HB_10 := Lib.hid (HB_9.out.trans (hb.mono HB_9.out.size))
  clear hb HB_9
  clear hk_g0_0_9
  clear hk_g0_1_9
  clear hk_g0_2_9
  clear hk_w0_0_9
  clear hk_w0_1_9
  clear hk_w0_2_9
  have hk_x0_0_10 := K_x0_10.out.cell 0 _ rfl
  have hk_x0_1_10 := K_x0_10.out.cell 1 _ rfl
  have hk_x0_2_10 := K_x0_10.out.cell 2 _ rfl
  have hk_a0_0_10 := K_a0_10.out.cell 0 _ rfl
  have hk_a0_1_10 := K_a0_10.out.cell 1 _ rfl
  have hk_a0_2_10 := K_a0_10.out.cell 2 _ rfl
  go_wp2
  go_region_held3 (fun w' => w'.cell? ⟨w3.heap.size, 0, none⟩ = some (.bool s0) ∧ w'.cell? ⟨w3.heap.size, 1, none⟩ = some (.slice A_x0 len0 c_x0) ∧ w'.cell? ⟨w3.heap.size, 2, none⟩ = some (.slice A_x0b len0b c_x0b) ∧ w'.cell? ⟨W.heap.size, 0, none⟩ = some (.bool s0) ∧ w'.cell? ⟨W.heap.size, 1, none⟩ = some (.slice a0 len0 cap0) ∧ w'.cell? ⟨W.heap.size, 2, none⟩ = some (.slice a0b len0b cap0b)) (go_keep)
    (first
      | (go_at_call 17
         refine (toRat_any s0 a0 len0 cap0 z0 a0b len0b cap0b z0b _ (HA0.out.below HB_10.out.drew (Nat.le_refl _)) (HA0b.out.below HB_10.out.drew (Nat.le_refl _)) (by omega) (by omega)).mono ?_
         rintro e w7 ⟨v_tt0, v_tt0b, rfl, ho_tt0, ho_tt0b, ap01, ap10, hb⟩
         obtain ⟨A_tt0, c_tt0, hv⟩ := ho_tt0.shape
         rw [HZ0.out] at hv
         subst hv
         obtain ⟨A_tt0b, c_tt0b, hv⟩ := ho_tt0b.shape
         rw [HZ0b.out] at hv
         subst hv
         have AP_tt0_tt0b := Lib.hid ap01
         clear ap01
         have AP_tt0b_tt0 := Lib.hid ap10
         clear ap10
         have H_tt0_0 := Lib.hid (ho_tt0.based HB_10.out.drew.size)
         clear ho_tt0
         have H_tt0b_0 := Lib.hid (ho_tt0b.based HB_10.out.drew.size)
         clear ho_tt0b
         have K_a0_11 := Lib.hid (K_a0_10.out.drew.after hb)
         clear K_a0_10
         have K_a1_11 := Lib.hid (K_a1_10.out.drew.after hb)
         clear K_a1_10
         have K_w0_11 := Lib.hid (K_w0_10.out.drew.after hb)
         clear K_w0_10
         have K_x0_11 := Lib.hid (K_x0_10.out.drew.after hb)
         clear K_x0_10
         have K_x1_11 := Lib.hid (K_x1_10.out.drew.after hb)
         clear K_x1_10
         have K_g0_11 := Lib.hid (K_g0_10.out.drew.after hb)
         clear K_g0_10
         have H_w0_11 := Lib.hid (OwnV.below (w := w6.drew) H_w0_10.out hb)
         clear H_w0_10
         have H_w0b_11 := Lib.hid (OwnV.below (w := w6.drew) H_w0b_10.out hb)
         clear H_w0b_10
         have H_x0_11 := Lib.hid (OwnV.below (w := w6.drew) H_x0_10.out hb)
         clear H_x0_10
         have H_x0b_11 := Lib.hid (OwnV.below (w := w6.drew) H_x0b_10.out hb)
         clear H_x0b_10
         have H_x1_11 := Lib.hid (OwnV.below (w := w6.drew) H_x1_10.out hb)
         clear H_x1_10
         have H_x1b_11 := Lib.hid (OwnV.below (w := w6.drew) H_x1b_10.out hb)
         clear H_x1b_10
         have H_g0_11 := Lib.hid (OwnV.below (w := w6.drew) H_g0_10.out hb)
         clear H_g0_10
         have H_g0b_11 := Lib.hid (OwnV.below (w := w6.drew) H_g0b_10.out hb)
         clear H_g0b_10
         have HB_11 := Lib.hid (HB_10.out.drew.trans (hb.mono HB_10.out.drew.size))
         clear hb HB_10
         have hk_x0_0_11 := K_x0_11.out.cell 0 _ rfl
         have hk_x0_1_11 := K_x0_11.out.cell 1 _ rfl
         have hk_x0_2_11 := K_x0_11.out.cell 2 _ rfl
         have hk_a0_0_11 := K_a0_11.out.cell 0 _ rfl
         have hk_a0_1_11 := K_a0_11.out.cell 1 _ rfl
         have hk_a0_2_11 := K_a0_11.out.cell 2 _ rfl)
      | (go_at_call 19
         refine (eqRat_same s0 A_x0 A_tt0 len0 c_x0 c_tt0 z0 A_x0b A_tt0b len0b c_x0b c_tt0b z0b _ H_x0_11.out.row H_tt0_0.out.row H_x0b_11.out.row H_tt0b_0.out.row (by unfold maxLen; omega) (by unfold maxLen; omega)).mono ?_
         rintro e w8 ⟨rfl, hb⟩
         have K_a0_12 := Lib.hid (K_a0_11.out.after hb)
         clear K_a0_11
         have K_a1_12 := Lib.hid (K_a1_11.out.after hb)
         clear K_a1_11
         have K_w0_12 := Lib.hid (K_w0_11.out.after hb)
         clear K_w0_11
         have K_x0_12 := Lib.hid (K_x0_11.out.after hb)
         clear K_x0_11
         have K_x1_12 := Lib.hid (K_x1_11.out.after hb)
         clear K_x1_11
         have K_g0_12 := Lib.hid (K_g0_11.out.after hb)
         clear K_g0_11
         have H_w0_12 := Lib.hid (OwnV.below (w := w7) H_w0_11.out hb)
         clear H_w0_11
         have H_w0b_12 := Lib.hid (OwnV.below (w := w7) H_w0b_11.out hb)
         clear H_w0b_11
         have H_x0_12 := Lib.hid (OwnV.below (w := w7) H_x0_11.out hb)
         clear H_x0_11
         have H_x0b_12 := Lib.hid (OwnV.below (w := w7) H_x0b_11.out hb)
         clear H_x0b_11
         have H_x1_12 := Lib.hid (OwnV.below (w := w7) H_x1_11.out hb)
         clear H_x1_11
         have H_x1b_12 := Lib.hid (OwnV.below (w := w7) H_x1b_11.out hb)
         clear H_x1b_11
         have H_g0_12 := Lib.hid (OwnV.below (w := w7) H_g0_11.out hb)
         clear H_g0_11
         have H_g0b_12 := Lib.hid (OwnV.below (w := w7) H_g0b_11.out hb)
         clear H_g0b_11
         have H_tt0_12 := Lib.hid (OwnV.below (w := w7) H_tt0_0.out hb)
         clear H_tt0_0
         have H_tt0b_12 := Lib.hid (OwnV.below (w := w7) H_tt0b_0.out hb)
         clear H_tt0b_0
         have HB_12 := Lib.hid (HB_11.out.trans (hb.mono HB_11.out.size))
         clear hb HB_11
         have hk_x0_0_12 := K_x0_12.out.cell 0 _ rfl
         have hk_x0_1_12 := K_x0_12.out.cell 1 _ rfl
         have hk_x0_2_12 := K_x0_12.out.cell 2 _ rfl
         have hk_a0_0_12 := K_a0_12.out.cell 0 _ rfl
         have hk_a0_1_12 := K_a0_12.out.cell 1 _ rfl
         have hk_a0_2_12 := K_a0_12.out.cell 2 _ rfl))
  clear H_tt0_12
  clear H_tt0b_12
  have hk_x1_0_12 := K_x1_12.out.cell 0 _ rfl
  have hk_x1_1_12 := K_x1_12.out.cell 1 _ rfl
  have hk_x1_2_12 := K_x1_12.out.cell 2 _ rfl
  have hk_a1_0_12 := K_a1_12.out.cell 0 _ rfl
  have hk_a1_1_12 := K_a1_12.out.cell 1 _ rfl
  have hk_a1_2_12 := K_a1_12.out.cell 2 _ rfl
  go_wp2
  go_region_held3 (fun w' => w'.cell? ⟨w4.heap.size, 0, none⟩ = some (.bool s1) ∧ w'.cell? ⟨w4.heap.size, 1, none⟩ = some (.slice A_x1 len1 c_x1) ∧ w'.cell? ⟨w4.heap.size, 2, none⟩ = some (.slice A_x1b len1b c_x1b) ∧ w'.cell? ⟨W.heap.size + 1, 0, none⟩ = some (.bool s1) ∧ w'.cell? ⟨W.heap.size + 1, 1, none⟩ = some (.slice a1 len1 cap1) ∧ w'.cell? ⟨W.heap.size + 1, 2, none⟩ = some (.slice a1b len1b cap1b)) (go_keep)
    (first
      | (go_at_call 17
         refine (toRat_any s1 a1 len1 cap1 z1 a1b len1b cap1b z1b _ (HA1.out.below HB_12.out.drew (Nat.le_refl _)) (HA1b.out.below HB_12.out.drew (Nat.le_refl _)) (by omega) (by omega)).mono ?_
         rintro e w9 ⟨v_tt1, v_tt1b, rfl, ho_tt1, ho_tt1b, ap01, ap10, hb⟩
         obtain ⟨A_tt1, c_tt1, hv⟩ := ho_tt1.shape
         rw [HZ1.out] at hv
         subst hv
         obtain ⟨A_tt1b, c_tt1b, hv⟩ := ho_tt1b.shape
         rw [HZ1b.out] at hv
         subst hv
         have AP_tt1_tt1b := Lib.hid ap01
         clear ap01
         have AP_tt1b_tt1 := Lib.hid ap10
         clear ap10
         have H_tt1_0 := Lib.hid (ho_tt1.based HB_12.out.drew.size)
         clear ho_tt1
         have H_tt1b_0 := Lib.hid (ho_tt1b.based HB_12.out.drew.size)
         clear ho_tt1b
         have K_a0_13 := Lib.hid (K_a0_12.out.drew.after hb)
         clear K_a0_12
         have K_a1_13 := Lib.hid (K_a1_12.out.drew.after hb)
         clear K_a1_12
         have K_w0_13 := Lib.hid (K_w0_12.out.drew.after hb)
         clear K_w0_12
         have K_x0_13 := Lib.hid (K_x0_12.out.drew.after hb)
         clear K_x0_12
         have K_x1_13 := Lib.hid (K_x1_12.out.drew.after hb)
         clear K_x1_12
         have K_g0_13 := Lib.hid (K_g0_12.out.drew.after hb)
         clear K_g0_12
         have H_w0_13 := Lib.hid (OwnV.below (w := w8.drew) H_w0_12.out hb)
         clear H_w0_12
         have H_w0b_13 := Lib.hid (OwnV.below (w := w8.drew) H_w0b_12.out hb)
         clear H_w0b_12
         have H_x0_13 := Lib.hid (OwnV.below (w := w8.drew) H_x0_12.out hb)
         clear H_x0_12
         have H_x0b_13 := Lib.hid (OwnV.below (w := w8.drew) H_x0b_12.out hb)
         clear H_x0b_12
         have H_x1_13 := Lib.hid (OwnV.below (w := w8.drew) H_x1_12.out hb)
         clear H_x1_12
         have H_x1b_13 := Lib.hid (OwnV.below (w := w8.drew) H_x1b_12.out hb)
         clear H_x1b_12
         have H_g0_13 := Lib.hid (OwnV.below (w := w8.drew) H_g0_12.out hb)
         clear H_g0_12
         have H_g0b_13 := Lib.hid (OwnV.below (w := w8.drew) H_g0b_12.out hb)
         clear H_g0b_12
         have HB_13 := Lib.hid (HB_12.out.drew.trans (hb.mono HB_12.out.drew.size))
         clear hb HB_12
         have hk_x1_0_13 := K_x1_13.out.cell 0 _ rfl
         have hk_x1_1_13 := K_x1_13.out.cell 1 _ rfl
         have hk_x1_2_13 := K_x1_13.out.cell 2 _ rfl
         have hk_a1_0_13 := K_a1_13.out.cell 0 _ rfl
         have hk_a1_1_13 := K_a1_13.out.cell 1 _ rfl
         have hk_a1_2_13 := K_a1_13.out.cell 2 _ rfl)
      | (go_at_call 19
         refine (eqRat_same s1 A_x1 A_tt1 len1 c_x1 c_tt1 z1 A_x1b A_tt1b len1b c_x1b c_tt1b z1b _ H_x1_13.out.row H_tt1_0.out.row H_x1b_13.out.row H_tt1b_0.out.row (by unfold maxLen; omega) (by unfold maxLen; omega)).mono ?_
         rintro e w10 ⟨rfl, hb⟩
         have K_a0_14 := Lib.hid (K_a0_13.out.after hb)
         clear K_a0_13
         have K_a1_14 := Lib.hid (K_a1_13.out.after hb)
         clear K_a1_13
         have K_w0_14 := Lib.hid (K_w0_13.out.after hb)
         clear K_w0_13
         have K_x0_14 := Lib.hid (K_x0_13.out.after hb)
         clear K_x0_13
         have K_x1_14 := Lib.hid (K_x1_13.out.after hb)
         clear K_x1_13
         have K_g0_14 := Lib.hid (K_g0_13.out.after hb)
         clear K_g0_13
         have H_w0_14 := Lib.hid (OwnV.below (w := w9) H_w0_13.out hb)
         clear H_w0_13
         have H_w0b_14 := Lib.hid (OwnV.below (w := w9) H_w0b_13.out hb)
         clear H_w0b_13
         have H_x0_14 := Lib.hid (OwnV.below (w := w9) H_x0_13.out hb)
         clear H_x0_13
         have H_x0b_14 := Lib.hid (OwnV.below (w := w9) H_x0b_13.out hb)
         clear H_x0b_13
         have H_x1_14 := Lib.hid (OwnV.below (w := w9) H_x1_13.out hb)
         clear H_x1_13
         have H_x1b_14 := Lib.hid (OwnV.below (w := w9) H_x1b_13.out hb)
         clear H_x1b_13
         have H_g0_14 := Lib.hid (OwnV.below (w := w9) H_g0_13.out hb)
         clear H_g0_13
         have H_g0b_14 := Lib.hid (OwnV.below (w := w9) H_g0b_13.out hb)
         clear H_g0b_13
         have H_tt1_14 := Lib.hid (OwnV.below (w := w9) H_tt1_0.out hb)
         clear H_tt1_0
         have H_tt1b_14 := Lib.hid (OwnV.below (w := w9) H_tt1b_0.out hb)
         clear H_tt1b_0
         have HB_14 := Lib.hid (HB_13.out.trans (hb.mono HB_13.out.size))
         clear hb HB_13
         have hk_x1_0_14 := K_x1_14.out.cell 0 _ rfl
         have hk_x1_1_14 := K_x1_14.out.cell 1 _ rfl
         have hk_x1_2_14 := K_x1_14.out.cell 2 _ rfl
         have hk_a1_0_14 := K_a1_14.out.cell 0 _ rfl
         have hk_a1_1_14 := K_a1_14.out.cell 1 _ rfl
         have hk_a1_2_14 := K_a1_14.out.cell 2 _ rfl))
  clear H_tt1_14
  clear H_tt1b_14
  have hk_x0_0_14 := K_x0_14.out.cell 0 _ rfl
  have hk_x0_1_14 := K_x0_14.out.cell 1 _ rfl
  have hk_x0_2_14 := K_x0_14.out.cell 2 _ rfl
  go_wp2_with fail
  refine (markRat_at s0 A_x0 len0 c_x0 A_x0b len0b c_x0b (1) W.heap.size _ (by first | rfl | omega) _ _ _ H_x0_14.out H_x0b_14.out AP_x0_x0b.out AP_x0b_x0.out (by omega)).mono ?_
  rintro e w11 ⟨rfl, wm11, hg0, hg1, ho0, ho1⟩
  have K_a0_15 := Lib.hid ((K_a0_14.out.grown hg0 BN_a0_x0.out).grown hg1 BN_a0_x0b.out)
  clear K_a0_14
  have K_a1_15 := Lib.hid ((K_a1_14.out.grown hg0 BN_a1_x0.out).grown hg1 BN_a1_x0b.out)
  clear K_a1_14
  have K_w0_15 := Lib.hid ((K_w0_14.out.grown hg0 BN_w0_x0.out).grown hg1 BN_w0_x0b.out)
  clear K_w0_14
  have K_x0_15 := Lib.hid ((K_x0_14.out.grown hg0 BN_x0_x0.out).grown hg1 BN_x0_x0b.out)
  clear K_x0_14
  have K_x1_15 := Lib.hid ((K_x1_14.out.grown hg0 BN_x1_x0.out).grown hg1 BN_x1_x0b.out)
  clear K_x1_14
  have K_g0_15 := Lib.hid ((K_g0_14.out.grown hg0 BN_g0_x0.out).grown hg1 BN_g0_x0b.out)
  clear K_g0_14
  have HB_15 := Lib.hid (Below.grown (Below.grown HB_14.out hg0 (Below.size HB_14.out) (fun k hk => (H_x0_14.out.lt k hk).1)) hg1 (Below.size (Below.grown HB_14.out hg0 (Below.size HB_14.out) (fun k hk => (H_x0_14.out.lt k hk).1))) (fun k hk => (H_x0b_14.out.lt k hk).1))
  clear HB_14
  have H_w0_15 := Lib.hid ((H_w0_14.out.kept hg0 AP_w0_x0.out).kept hg1 AP_w0_x0b.out)
  clear H_w0_14
  have H_w0b_15 := Lib.hid ((H_w0b_14.out.kept hg0 AP_w0b_x0.out).kept hg1 AP_w0b_x0b.out)
  clear H_w0b_14
  have H_x1_15 := Lib.hid ((H_x1_14.out.kept hg0 AP_x1_x0.out).kept hg1 AP_x1_x0b.out)
  clear H_x1_14
  have H_x1b_15 := Lib.hid ((H_x1b_14.out.kept hg0 AP_x1b_x0.out).kept hg1 AP_x1b_x0b.out)
  clear H_x1b_14
  have H_g0_15 := Lib.hid ((H_g0_14.out.kept hg0 AP_g0_x0.out).kept hg1 AP_g0_x0b.out)
  clear H_g0_14
  have H_g0b_15 := Lib.hid ((H_g0b_14.out.kept hg0 AP_g0b_x0.out).kept hg1 AP_g0b_x0b.out)
  clear H_g0b_14
  clear H_x0_14
  have H_x0_15 := Lib.hid ho0
  clear ho0
  clear H_x0b_14
  have H_x0b_15 := Lib.hid ho1
  clear ho1
  clear hg1 hg0
  clear hk_x0_0_14
  clear hk_x0_1_14
  clear hk_x0_2_14
  have hk_x1_0_15 := K_x1_15.out.cell 0 _ rfl
  have hk_x1_1_15 := K_x1_15.out.cell 1 _ rfl
  have hk_x1_2_15 := K_x1_15.out.cell 2 _ rfl
  go_wp2_with fail
  refine (markRat_at s1 A_x1 len1 c_x1 A_x1b len1b c_x1b (1 + len0 + len0b) W.heap.size _ (by first | rfl | omega) _ _ _ H_x1_15.out H_x1b_15.out AP_x1_x1b.out AP_x1b_x1.out (by omega)).mono ?_
  rintro e w12 ⟨rfl, wm12, hg0, hg1, ho0, ho1⟩
  have K_a0_16 := Lib.hid ((K_a0_15.out.grown hg0 BN_a0_x1.out).grown hg1 BN_a0_x1b.out)
  clear K_a0_15
  have K_a1_16 := Lib.hid ((K_a1_15.out.grown hg0 BN_a1_x1.out).grown hg1 BN_a1_x1b.out)
  clear K_a1_15
  have K_w0_16 := Lib.hid ((K_w0_15.out.grown hg0 BN_w0_x1.out).grown hg1 BN_w0_x1b.out)
  clear K_w0_15
  have K_x0_16 := Lib.hid ((K_x0_15.out.grown hg0 BN_x0_x1.out).grown hg1 BN_x0_x1b.out)
  clear K_x0_15
  have K_x1_16 := Lib.hid ((K_x1_15.out.grown hg0 BN_x1_x1.out).grown hg1 BN_x1_x1b.out)
  clear K_x1_15
  have K_g0_16 := Lib.hid ((K_g0_15.out.grown hg0 BN_g0_x1.out).grown hg1 BN_g0_x1b.out)
  clear K_g0_15
  have HB_16 := Lib.hid (Below.grown (Below.grown HB_15.out hg0 (Below.size HB_15.out) (fun k hk => (H_x1_15.out.lt k hk).1)) hg1 (Below.size (Below.grown HB_15.out hg0 (Below.size HB_15.out) (fun k hk => (H_x1_15.out.lt k hk).1))) (fun k hk => (H_x1b_15.out.lt k hk).1))
  clear HB_15
  have H_w0_16 := Lib.hid ((H_w0_15.out.kept hg0 AP_w0_x1.out).kept hg1 AP_w0_x1b.out)
  clear H_w0_15
  have H_w0b_16 := Lib.hid ((H_w0b_15.out.kept hg0 AP_w0b_x1.out).kept hg1 AP_w0b_x1b.out)
  clear H_w0b_15
  have H_x0_16 := Lib.hid ((H_x0_15.out.kept hg0 AP_x0_x1.out).kept hg1 AP_x0_x1b.out)
  clear H_x0_15
  have H_x0b_16 := Lib.hid ((H_x0b_15.out.kept hg0 AP_x0b_x1.out).kept hg1 AP_x0b_x1b.out)
  clear H_x0b_15
  have H_g0_16 := Lib.hid ((H_g0_15.out.kept hg0 AP_g0_x1.out).kept hg1 AP_g0_x1b.out)
  clear H_g0_15
  have H_g0b_16 := Lib.hid ((H_g0b_15.out.kept hg0 AP_g0b_x1.out).kept hg1 AP_g0b_x1b.out)
  clear H_g0b_15
  clear H_x1_15
  have H_x1_16 := Lib.hid ho0
  clear ho0
  clear H_x1b_15
  have H_x1b_16 := Lib.hid ho1
  clear ho1
  clear hg1 hg0
  clear H_x0_16
  clear H_x0b_16
  clear hk_x1_0_15
  clear hk_x1_1_15
  clear hk_x1_2_15
  clear K_x0_16
  clear H_x1_16
  clear H_x1b_16
  clear K_x1_16
  have hk_g0_0_16 := K_g0_16.out.cell 0 _ rfl
  have hk_g0_1_16 := K_g0_16.out.cell 1 _ rfl
  have hk_g0_2_16 := K_g0_16.out.cell 2 _ rfl
  have hk_w0_0_16 := K_w0_16.out.cell 0 _ rfl
  have hk_w0_1_16 := K_w0_16.out.cell 1 _ rfl
  have hk_w0_2_16 := K_w0_16.out.cell 2 _ rfl
  go_wp2_with fail
  refine (eqRat_same RS0 A_g0 A_w0 n0 c_g0 c_w0 R0 A_g0b A_w0b n0b c_g0b c_w0b R0b _ H_g0_16.out.row H_w0_16.out.row H_g0b_16.out.row H_w0b_16.out.row (by unfold maxLen; omega) (by unfold maxLen; omega)).mono ?_
  rintro e w13 ⟨rfl, hb⟩
  have K_a0_17 := Lib.hid (K_a0_16.out.after hb)
  clear K_a0_16
  have K_a1_17 := Lib.hid (K_a1_16.out.after hb)
  clear K_a1_16
  have K_w0_17 := Lib.hid (K_w0_16.out.after hb)
  clear K_w0_16
  have K_g0_17 := Lib.hid (K_g0_16.out.after hb)
  clear K_g0_16
  have H_w0_17 := Lib.hid (OwnV.below (w := w12) H_w0_16.out hb)
  clear H_w0_16
  have H_w0b_17 := Lib.hid (OwnV.below (w := w12) H_w0b_16.out hb)
  clear H_w0b_16
  have H_g0_17 := Lib.hid (OwnV.below (w := w12) H_g0_16.out hb)
  clear H_g0_16
  have H_g0b_17 := Lib.hid (OwnV.below (w := w12) H_g0b_16.out hb)
  clear H_g0b_16
  have HB_17 := Lib.hid (HB_16.out.trans (hb.mono HB_16.out.size))
  clear hb HB_16
  clear hk_g0_0_16
  clear hk_g0_1_16
  clear hk_g0_2_16
  clear hk_w0_0_16
  clear hk_w0_1_16
  clear hk_w0_2_16
  have hk_g0_0_17 := K_g0_17.out.cell 0 _ rfl
  have hk_g0_1_17 := K_g0_17.out.cell 1 _ rfl
  have hk_g0_2_17 := K_g0_17.out.cell 2 _ rfl
  go_wp2_with fail
  refine (markRat_at RS0 A_g0 n0 c_g0 A_g0b n0b c_g0b (1) W.heap.size _ (by first | rfl | omega) _ _ _ H_g0_17.out H_g0b_17.out AP_g0_g0b.out AP_g0b_g0.out (by omega)).mono ?_
  rintro e w14 ⟨rfl, wm14, hg0, hg1, ho0, ho1⟩
  have K_a0_18 := Lib.hid ((K_a0_17.out.grown hg0 BN_a0_g0.out).grown hg1 BN_a0_g0b.out)
  clear K_a0_17
  have K_a1_18 := Lib.hid ((K_a1_17.out.grown hg0 BN_a1_g0.out).grown hg1 BN_a1_g0b.out)
  clear K_a1_17
  have K_w0_18 := Lib.hid ((K_w0_17.out.grown hg0 BN_w0_g0.out).grown hg1 BN_w0_g0b.out)
  clear K_w0_17
  have K_g0_18 := Lib.hid ((K_g0_17.out.grown hg0 BN_g0_g0.out).grown hg1 BN_g0_g0b.out)
  clear K_g0_17
  have HB_18 := Lib.hid (Below.grown (Below.grown HB_17.out hg0 (Below.size HB_17.out) (fun k hk => (H_g0_17.out.lt k hk).1)) hg1 (Below.size (Below.grown HB_17.out hg0 (Below.size HB_17.out) (fun k hk => (H_g0_17.out.lt k hk).1))) (fun k hk => (H_g0b_17.out.lt k hk).1))
  clear HB_17
  have H_w0_18 := Lib.hid ((H_w0_17.out.kept hg0 AP_w0_g0.out).kept hg1 AP_w0_g0b.out)
  clear H_w0_17
  have H_w0b_18 := Lib.hid ((H_w0b_17.out.kept hg0 AP_w0b_g0.out).kept hg1 AP_w0b_g0b.out)
  clear H_w0b_17
  clear H_g0_17
  have H_g0_18 := Lib.hid ho0
  clear ho0
  clear H_g0b_17
  have H_g0b_18 := Lib.hid ho1
  clear ho1
  clear hg1 hg0
  clear hk_g0_0_17
  clear hk_g0_1_17
  clear hk_g0_2_17
  have hk_g0_0_18 := K_g0_18.out.cell 0 _ rfl
  have hk_g0_1_18 := K_g0_18.out.cell 1 _ rfl
  have hk_g0_2_18 := K_g0_18.out.cell 2 _ rfl
  go_wp2_with fail
  refine (heldRat_at RS0 A_g0 n0 c_g0 A_g0b n0b c_g0b (1) _ (by first | rfl | omega) _ H_g0_18.out.row H_g0b_18.out.row (by omega)).mono ?_
  rintro e w15 ⟨rfl, hb⟩
  have K_a0_19 := Lib.hid (K_a0_18.out.after hb)
  clear K_a0_18
  have K_a1_19 := Lib.hid (K_a1_18.out.after hb)
  clear K_a1_18
  have K_w0_19 := Lib.hid (K_w0_18.out.after hb)
  clear K_w0_18
  have K_g0_19 := Lib.hid (K_g0_18.out.after hb)
  clear K_g0_18
  have H_w0_19 := Lib.hid (OwnV.below (w := w14) H_w0_18.out hb)
  clear H_w0_18
  have H_w0b_19 := Lib.hid (OwnV.below (w := w14) H_w0b_18.out hb)
  clear H_w0b_18
  have H_g0_19 := Lib.hid (OwnV.below (w := w14) H_g0_18.out hb)
  clear H_g0_18
  have H_g0b_19 := Lib.hid (OwnV.below (w := w14) H_g0b_18.out hb)
  clear H_g0b_18
  have HB_19 := Lib.hid (HB_18.out.trans (hb.mono HB_18.out.size))
  clear hb HB_18
  clear hk_g0_0_18
  clear hk_g0_1_18
  clear hk_g0_2_18
  have hk_a0_0_19 := K_a0_19.out.cell 0 _ rfl
  have hk_a0_1_19 := K_a0_19.out.cell 1 _ rfl
  have hk_a0_2_19 := K_a0_19.out.cell 2 _ rfl
  have hk_a1_0_19 := K_a1_19.out.cell 0 _ rfl
  have hk_a1_1_19 := K_a1_19.out.cell 1 _ rfl
  have hk_a1_2_19 := K_a1_19.out.cell 2 _ rfl
  go_upto_region 31 with fail
  go_cut [13] (fun p wx => ∃ b A Ab c cb, p = .pointer (some ⟨b, 0, none⟩) ∧ HeldL wx b [.bool RS0, .slice A n0 c, .slice Ab n0b cb] ∧ OwnV wx W.heap.size 3 (.slice A n0 c) (ints R0) ∧ OwnV wx W.heap.size 3 (.slice Ab n0b cb) (ints R0b) ∧ ((Value.slice A n0 c).ownBlock = none ∨ (Value.slice A n0 c).ownBlock ≠ (Value.slice Ab n0b cb).ownBlock) ∧ ((Value.slice Ab n0b cb).ownBlock = none ∨ (Value.slice Ab n0b cb).ownBlock ≠ (Value.slice A n0 c).ownBlock) ∧ HeldL wx (W.heap.size) [.bool s0, .slice a0 len0 cap0, .slice a0b len0b cap0b] ∧ HeldL wx (W.heap.size + 1) [.bool s1, .slice a1 len1 cap1, .slice a1b len1b cap1b] ∧ HeldL wx (b_w0) [.bool RS0, .slice A_w0 n0 c_w0, .slice A_w0b n0b c_w0b] ∧ HeldL wx (w5.heap.size) [.bool RS0, .slice A_g0 n0 c_g0, .slice A_g0b n0b c_g0b] ∧ OwnV wx W.heap.size 3 (.slice A_w0 n0 c_w0) (ints R0) ∧ OwnV wx W.heap.size 3 (.slice A_w0b n0b c_w0b) (ints R0b) ∧ OwnV wx W.heap.size 3 (.slice A_g0 n0 c_g0) (marksI (1) n0) ∧ OwnV wx W.heap.size 3 (.slice A_g0b n0b c_g0b) (marksI (1 + n0) n0b) ∧ Below W.heap.size W wx)
  case first =>
    go_region_held3 (fun w' => w'.cell? ⟨W.heap.size, 0, none⟩ = some (.bool s0) ∧ w'.cell? ⟨W.heap.size, 1, none⟩ = some (.slice a0 len0 cap0) ∧ w'.cell? ⟨W.heap.size, 2, none⟩ = some (.slice a0b len0b cap0b) ∧ w'.cell? ⟨W.heap.size + 1, 0, none⟩ = some (.bool s1) ∧ w'.cell? ⟨W.heap.size + 1, 1, none⟩ = some (.slice a1 len1 cap1) ∧ w'.cell? ⟨W.heap.size + 1, 2, none⟩ = some (.slice a1b len1b cap1b)) (go_keep)
      (first
        | (go_at_call_of 17 (Value.agg #[Value.bool s0, Value.slice a0 len0 cap0, Value.slice a0b len0b cap0b])
           refine (toRat_any s0 a0 len0 cap0 z0 a0b len0b cap0b z0b _ ?_ ?_ ?_ ?_).mono ?_
           first | exact HA0.out.below HB_19.out.drew (Nat.le_refl _) | exact HA0.out.below (HB_19.out.alloc HB_19.out.size (.cells #[.bool false, .slice none 0 0, .slice none 0 0] 30)).drew (Nat.le_refl _)
           first | exact HA0b.out.below HB_19.out.drew (Nat.le_refl _) | exact HA0b.out.below (HB_19.out.alloc HB_19.out.size (.cells #[.bool false, .slice none 0 0, .slice none 0 0] 30)).drew (Nat.le_refl _)
           omega
           omega
           rintro e u1 ⟨v0, v1, rfl, ho0, ho1, ap01, ap10, hb⟩
           clear ap01 ap10
           obtain ⟨A_ts0, c_ts0, hv⟩ := ho0.shape
           rw [HZ0.out] at hv
           subst hv
           obtain ⟨A_ts0b, c_ts0b, hv⟩ := ho1.shape
           rw [HZ0b.out] at hv
           subst hv
           first | (have KN1 := Lib.hid ((HeldL.new w15 [.bool false, .slice none 0 0, .slice none 0 0] 30).drew.after hb); have HLN1 := Lib.hid (HeldL.new w15 [.bool false, .slice none 0 0, .slice none 0 0] 30).lt; have HGN := Lib.hid HB_19.out.size; have NE_a0 := Lib.hid (Nat.ne_of_lt K_a0_19.out.lt); have NE_a1 := Lib.hid (Nat.ne_of_lt K_a1_19.out.lt); have NE_w0 := Lib.hid (Nat.ne_of_lt K_w0_19.out.lt); have NE_g0 := Lib.hid (Nat.ne_of_lt K_g0_19.out.lt); have NB_w0 := Lib.hid (OwnV.bn_new H_w0_19.out); have NB_w0b := Lib.hid (OwnV.bn_new H_w0b_19.out); have NB_g0 := Lib.hid (OwnV.bn_new H_g0_19.out); have NB_g0b := Lib.hid (OwnV.bn_new H_g0b_19.out)) | skip
           have T9 : HeldL u1 (W.heap.size) [.bool s0, .slice a0 len0 cap0, .slice a0b len0b cap0b] := by first | exact K_a0_19.out.drew.after hb | exact (K_a0_19.out.alloc (.cells #[.bool false, .slice none 0 0, .slice none 0 0] 30)).drew.after hb
           have KK_a0_1 := Lib.hid T9
           clear T9
           have T9 : HeldL u1 (W.heap.size + 1) [.bool s1, .slice a1 len1 cap1, .slice a1b len1b cap1b] := by first | exact K_a1_19.out.drew.after hb | exact (K_a1_19.out.alloc (.cells #[.bool false, .slice none 0 0, .slice none 0 0] 30)).drew.after hb
           have KK_a1_1 := Lib.hid T9
           clear T9
           have T9 : HeldL u1 (b_w0) [.bool RS0, .slice A_w0 n0 c_w0, .slice A_w0b n0b c_w0b] := by first | exact K_w0_19.out.drew.after hb | exact (K_w0_19.out.alloc (.cells #[.bool false, .slice none 0 0, .slice none 0 0] 30)).drew.after hb
           have KK_w0_1 := Lib.hid T9
           clear T9
           have T9 : HeldL u1 (w5.heap.size) [.bool RS0, .slice A_g0 n0 c_g0, .slice A_g0b n0b c_g0b] := by first | exact K_g0_19.out.drew.after hb | exact (K_g0_19.out.alloc (.cells #[.bool false, .slice none 0 0, .slice none 0 0] 30)).drew.after hb
           have KK_g0_1 := Lib.hid T9
           clear T9
           have T9 : OwnV u1 W.heap.size 3 (.slice A_w0 n0 c_w0) (ints R0) := by first | exact OwnV.below (w := w15.drew) H_w0_19.out hb | exact OwnV.below (w := (w15.alloc (.cells #[.bool false, .slice none 0 0, .slice none 0 0] 30)).drew) (OwnV.below H_w0_19.out ((Below.refl _ w15).alloc (Nat.le_refl _) (.cells #[.bool false, .slice none 0 0, .slice none 0 0] 30)).drew) hb
           have HH_w0_1 := Lib.hid T9
           clear T9
           have T9 : OwnV u1 W.heap.size 3 (.slice A_w0b n0b c_w0b) (ints R0b) := by first | exact OwnV.below (w := w15.drew) H_w0b_19.out hb | exact OwnV.below (w := (w15.alloc (.cells #[.bool false, .slice none 0 0, .slice none 0 0] 30)).drew) (OwnV.below H_w0b_19.out ((Below.refl _ w15).alloc (Nat.le_refl _) (.cells #[.bool false, .slice none 0 0, .slice none 0 0] 30)).drew) hb
           have HH_w0b_1 := Lib.hid T9
           clear T9
           have T9 : OwnV u1 W.heap.size 3 (.slice A_g0 n0 c_g0) (marksI (1) n0) := by first | exact OwnV.below (w := w15.drew) H_g0_19.out hb | exact OwnV.below (w := (w15.alloc (.cells #[.bool false, .slice none 0 0, .slice none 0 0] 30)).drew) (OwnV.below H_g0_19.out ((Below.refl _ w15).alloc (Nat.le_refl _) (.cells #[.bool false, .slice none 0 0, .slice none 0 0] 30)).drew) hb
           have HH_g0_1 := Lib.hid T9
           clear T9
           have T9 : OwnV u1 W.heap.size 3 (.slice A_g0b n0b c_g0b) (marksI (1 + n0) n0b) := by first | exact OwnV.below (w := w15.drew) H_g0b_19.out hb | exact OwnV.below (w := (w15.alloc (.cells #[.bool false, .slice none 0 0, .slice none 0 0] 30)).drew) (OwnV.below H_g0b_19.out ((Below.refl _ w15).alloc (Nat.le_refl _) (.cells #[.bool false, .slice none 0 0, .slice none 0 0] 30)).drew) hb
           have HH_g0b_1 := Lib.hid T9
           clear T9
           have T9 : OwnV u1 W.heap.size 3 (.slice A_ts0 len0 c_ts0) (ints z0) := by first | exact ho0.based HB_19.out.drew.size | exact ho0.based (HB_19.out.alloc HB_19.out.size (.cells #[.bool false, .slice none 0 0, .slice none 0 0] 30)).drew.size
           have HH_ts0_1 := Lib.hid T9
           clear T9 ho0
           have T9 : OwnV u1 W.heap.size 3 (.slice A_ts0b len0b c_ts0b) (ints z0b) := by first | exact ho1.based HB_19.out.drew.size | exact ho1.based (HB_19.out.alloc HB_19.out.size (.cells #[.bool false, .slice none 0 0, .slice none 0 0] 30)).drew.size
           have HH_ts0b_1 := Lib.hid T9
           clear T9 ho1
           have T9 : Below W.heap.size W u1 := by first | exact (HB_19.out.drew).trans (hb.mono (HB_19.out.drew).size) | exact ((HB_19.out.alloc HB_19.out.size (.cells #[.bool false, .slice none 0 0, .slice none 0 0] 30)).drew).trans (hb.mono ((HB_19.out.alloc HB_19.out.size (.cells #[.bool false, .slice none 0 0, .slice none 0 0] 30)).drew).size)
           have HHB_1 := Lib.hid T9
           clear T9 hb
           have hka0_0_1 := KK_a0_1.out.cell 0 _ rfl
           have hka0_1_1 := KK_a0_1.out.cell 1 _ rfl
           have hka0_2_1 := KK_a0_1.out.cell 2 _ rfl
           have hka1_0_1 := KK_a1_1.out.cell 0 _ rfl
           have hka1_1_1 := KK_a1_1.out.cell 1 _ rfl
           have hka1_2_1 := KK_a1_1.out.cell 2 _ rfl)
        | (go_at_call_of 17 (Value.agg #[Value.bool s1, Value.slice a1 len1 cap1, Value.slice a1b len1b cap1b])
           refine (toRat_any s1 a1 len1 cap1 z1 a1b len1b cap1b z1b _ ?_ ?_ ?_ ?_).mono ?_
           first | exact HA1.out.below HHB_1.out (Nat.le_refl _) | exact HA1.out.below (HHB_1.out.alloc HHB_1.out.size (.cells #[.bool false, .slice none 0 0, .slice none 0 0] 30)) (Nat.le_refl _)
           first | exact HA1b.out.below HHB_1.out (Nat.le_refl _) | exact HA1b.out.below (HHB_1.out.alloc HHB_1.out.size (.cells #[.bool false, .slice none 0 0, .slice none 0 0] 30)) (Nat.le_refl _)
           omega
           omega
           rintro e u2 ⟨v0, v1, rfl, ho0, ho1, ap01, ap10, hb⟩
           clear ap01 ap10
           obtain ⟨A_ts1, c_ts1, hv⟩ := ho0.shape
           rw [HZ1.out] at hv
           subst hv
           obtain ⟨A_ts1b, c_ts1b, hv⟩ := ho1.shape
           rw [HZ1b.out] at hv
           subst hv
           first | (have KN2 := Lib.hid (KN1.out.after hb); have HLN2 := Lib.hid KN1.out.lt) | (have KN2 := Lib.hid ((HeldL.new u1 [.bool false, .slice none 0 0, .slice none 0 0] 30).after hb); have HLN2 := Lib.hid (HeldL.new u1 [.bool false, .slice none 0 0, .slice none 0 0] 30).lt; have HGN := Lib.hid HHB_1.out.size; have NE_a0 := Lib.hid (Nat.ne_of_lt KK_a0_1.out.lt); have NE_a1 := Lib.hid (Nat.ne_of_lt KK_a1_1.out.lt); have NE_w0 := Lib.hid (Nat.ne_of_lt KK_w0_1.out.lt); have NE_g0 := Lib.hid (Nat.ne_of_lt KK_g0_1.out.lt); have NB_w0 := Lib.hid (OwnV.bn_new HH_w0_1.out); have NB_w0b := Lib.hid (OwnV.bn_new HH_w0b_1.out); have NB_g0 := Lib.hid (OwnV.bn_new HH_g0_1.out); have NB_g0b := Lib.hid (OwnV.bn_new HH_g0b_1.out)) | skip
           have T9 : HeldL u2 (W.heap.size) [.bool s0, .slice a0 len0 cap0, .slice a0b len0b cap0b] := by first | exact KK_a0_1.out.after hb | exact (KK_a0_1.out.alloc (.cells #[.bool false, .slice none 0 0, .slice none 0 0] 30)).after hb
           have KK_a0_2 := Lib.hid T9
           clear T9
           have T9 : HeldL u2 (W.heap.size + 1) [.bool s1, .slice a1 len1 cap1, .slice a1b len1b cap1b] := by first | exact KK_a1_1.out.after hb | exact (KK_a1_1.out.alloc (.cells #[.bool false, .slice none 0 0, .slice none 0 0] 30)).after hb
           have KK_a1_2 := Lib.hid T9
           clear T9
           have T9 : HeldL u2 (b_w0) [.bool RS0, .slice A_w0 n0 c_w0, .slice A_w0b n0b c_w0b] := by first | exact KK_w0_1.out.after hb | exact (KK_w0_1.out.alloc (.cells #[.bool false, .slice none 0 0, .slice none 0 0] 30)).after hb
           have KK_w0_2 := Lib.hid T9
           clear T9
           have T9 : HeldL u2 (w5.heap.size) [.bool RS0, .slice A_g0 n0 c_g0, .slice A_g0b n0b c_g0b] := by first | exact KK_g0_1.out.after hb | exact (KK_g0_1.out.alloc (.cells #[.bool false, .slice none 0 0, .slice none 0 0] 30)).after hb
           have KK_g0_2 := Lib.hid T9
           clear T9
           have T9 : OwnV u2 W.heap.size 3 (.slice A_w0 n0 c_w0) (ints R0) := by first | exact OwnV.below (w := u1) HH_w0_1.out hb | exact OwnV.below (w := (u1.alloc (.cells #[.bool false, .slice none 0 0, .slice none 0 0] 30))) (OwnV.below HH_w0_1.out ((Below.refl _ u1).alloc (Nat.le_refl _) (.cells #[.bool false, .slice none 0 0, .slice none 0 0] 30))) hb
           have HH_w0_2 := Lib.hid T9
           clear T9
           have T9 : OwnV u2 W.heap.size 3 (.slice A_w0b n0b c_w0b) (ints R0b) := by first | exact OwnV.below (w := u1) HH_w0b_1.out hb | exact OwnV.below (w := (u1.alloc (.cells #[.bool false, .slice none 0 0, .slice none 0 0] 30))) (OwnV.below HH_w0b_1.out ((Below.refl _ u1).alloc (Nat.le_refl _) (.cells #[.bool false, .slice none 0 0, .slice none 0 0] 30))) hb
           have HH_w0b_2 := Lib.hid T9
           clear T9
           have T9 : OwnV u2 W.heap.size 3 (.slice A_g0 n0 c_g0) (marksI (1) n0) := by first | exact OwnV.below (w := u1) HH_g0_1.out hb | exact OwnV.below (w := (u1.alloc (.cells #[.bool false, .slice none 0 0, .slice none 0 0] 30))) (OwnV.below HH_g0_1.out ((Below.refl _ u1).alloc (Nat.le_refl _) (.cells #[.bool false, .slice none 0 0, .slice none 0 0] 30))) hb
           have HH_g0_2 := Lib.hid T9
           clear T9
           have T9 : OwnV u2 W.heap.size 3 (.slice A_g0b n0b c_g0b) (marksI (1 + n0) n0b) := by first | exact OwnV.below (w := u1) HH_g0b_1.out hb | exact OwnV.below (w := (u1.alloc (.cells #[.bool false, .slice none 0 0, .slice none 0 0] 30))) (OwnV.below HH_g0b_1.out ((Below.refl _ u1).alloc (Nat.le_refl _) (.cells #[.bool false, .slice none 0 0, .slice none 0 0] 30))) hb
           have HH_g0b_2 := Lib.hid T9
           clear T9
           have T9 : OwnV u2 W.heap.size 3 (.slice A_ts0 len0 c_ts0) (ints z0) := by first | exact OwnV.below (w := u1) HH_ts0_1.out hb | exact OwnV.below (w := (u1.alloc (.cells #[.bool false, .slice none 0 0, .slice none 0 0] 30))) (OwnV.below HH_ts0_1.out ((Below.refl _ u1).alloc (Nat.le_refl _) (.cells #[.bool false, .slice none 0 0, .slice none 0 0] 30))) hb
           have HH_ts0_2 := Lib.hid T9
           clear T9
           have T9 : OwnV u2 W.heap.size 3 (.slice A_ts0b len0b c_ts0b) (ints z0b) := by first | exact OwnV.below (w := u1) HH_ts0b_1.out hb | exact OwnV.below (w := (u1.alloc (.cells #[.bool false, .slice none 0 0, .slice none 0 0] 30))) (OwnV.below HH_ts0b_1.out ((Below.refl _ u1).alloc (Nat.le_refl _) (.cells #[.bool false, .slice none 0 0, .slice none 0 0] 30))) hb
           have HH_ts0b_2 := Lib.hid T9
           clear T9
           have T9 : OwnV u2 W.heap.size 3 (.slice A_ts1 len1 c_ts1) (ints z1) := by first | exact ho0.based HHB_1.out.size | exact ho0.based (HHB_1.out.alloc HHB_1.out.size (.cells #[.bool false, .slice none 0 0, .slice none 0 0] 30)).size
           have HH_ts1_2 := Lib.hid T9
           clear T9 ho0
           have T9 : OwnV u2 W.heap.size 3 (.slice A_ts1b len1b c_ts1b) (ints z1b) := by first | exact ho1.based HHB_1.out.size | exact ho1.based (HHB_1.out.alloc HHB_1.out.size (.cells #[.bool false, .slice none 0 0, .slice none 0 0] 30)).size
           have HH_ts1b_2 := Lib.hid T9
           clear T9 ho1
           have T9 : Below W.heap.size W u2 := by first | exact (HHB_1.out).trans (hb.mono (HHB_1.out).size) | exact ((HHB_1.out.alloc HHB_1.out.size (.cells #[.bool false, .slice none 0 0, .slice none 0 0] 30))).trans (hb.mono ((HHB_1.out.alloc HHB_1.out.size (.cells #[.bool false, .slice none 0 0, .slice none 0 0] 30))).size)
           have HHB_2 := Lib.hid T9
           clear T9 hb
           have hka0_0_2 := KK_a0_2.out.cell 0 _ rfl
           have hka0_1_2 := KK_a0_2.out.cell 1 _ rfl
           have hka0_2_2 := KK_a0_2.out.cell 2 _ rfl
           have hka1_0_2 := KK_a1_2.out.cell 0 _ rfl
           have hka1_1_2 := KK_a1_2.out.cell 1 _ rfl
           have hka1_2_2 := KK_a1_2.out.cell 2 _ rfl)
        | (go_at_call 27
           first | refine (ratDiv_impl s0 A_ts0 len0 c_ts0 z0 A_ts0b len0b c_ts0b z0b s1 A_ts1 len1 c_ts1 z1 A_ts1b len1b c_ts1b z1b _ HH_ts0_2.out.arg HH_ts0b_2.out.arg HH_ts1_2.out.arg HH_ts1b_2.out.arg).mono ?_ | refine (ratDiv_impl s0 A_ts0 len0 c_ts0 z0 A_ts0b len0b c_ts0b z0b s1 A_ts1 len1 c_ts1 z1 A_ts1b len1b c_ts1b z1b _ (OwnV.below HH_ts0_2.out ((Below.refl _ u2).alloc (Nat.le_refl _) (.cells #[.bool false, .slice none 0 0, .slice none 0 0] 30))).arg (OwnV.below HH_ts0b_2.out ((Below.refl _ u2).alloc (Nat.le_refl _) (.cells #[.bool false, .slice none 0 0, .slice none 0 0] 30))).arg (OwnV.below HH_ts1_2.out ((Below.refl _ u2).alloc (Nat.le_refl _) (.cells #[.bool false, .slice none 0 0, .slice none 0 0] 30))).arg (OwnV.below HH_ts1b_2.out ((Below.refl _ u2).alloc (Nat.le_refl _) (.cells #[.bool false, .slice none 0 0, .slice none 0 0] 30))).arg).mono ?_
           rintro e u3 ⟨v0, v1, rfl, ho0, ho1, ap01, ap10, hb⟩
           rw [HS0.out]
           rw [HR0.out] at ho0
           obtain ⟨A_n, c_n, hv⟩ := ho0.shape
           rw [HN0.out] at hv
           subst hv
           rw [HR0b.out] at ho1
           obtain ⟨A_nb, c_nb, hv⟩ := ho1.shape
           rw [HN0b.out] at hv
           subst hv
           have Hap01 := Lib.hid ap01
           clear ap01
           have Hap10 := Lib.hid ap10
           clear ap10
           first | (have KN3 := Lib.hid (KN2.out.after hb); have HLN3 := Lib.hid KN2.out.lt) | (have KN3 := Lib.hid ((HeldL.new u2 [.bool false, .slice none 0 0, .slice none 0 0] 30).after hb); have HLN3 := Lib.hid (HeldL.new u2 [.bool false, .slice none 0 0, .slice none 0 0] 30).lt; have HGN := Lib.hid HHB_2.out.size; have NE_a0 := Lib.hid (Nat.ne_of_lt KK_a0_2.out.lt); have NE_a1 := Lib.hid (Nat.ne_of_lt KK_a1_2.out.lt); have NE_w0 := Lib.hid (Nat.ne_of_lt KK_w0_2.out.lt); have NE_g0 := Lib.hid (Nat.ne_of_lt KK_g0_2.out.lt); have NB_w0 := Lib.hid (OwnV.bn_new HH_w0_2.out); have NB_w0b := Lib.hid (OwnV.bn_new HH_w0b_2.out); have NB_g0 := Lib.hid (OwnV.bn_new HH_g0_2.out); have NB_g0b := Lib.hid (OwnV.bn_new HH_g0b_2.out)) | skip
           have T9 : HeldL u3 (W.heap.size) [.bool s0, .slice a0 len0 cap0, .slice a0b len0b cap0b] := by first | exact KK_a0_2.out.after hb | exact (KK_a0_2.out.alloc (.cells #[.bool false, .slice none 0 0, .slice none 0 0] 30)).after hb
           have KK_a0_3 := Lib.hid T9
           clear T9
           have T9 : HeldL u3 (W.heap.size + 1) [.bool s1, .slice a1 len1 cap1, .slice a1b len1b cap1b] := by first | exact KK_a1_2.out.after hb | exact (KK_a1_2.out.alloc (.cells #[.bool false, .slice none 0 0, .slice none 0 0] 30)).after hb
           have KK_a1_3 := Lib.hid T9
           clear T9
           have T9 : HeldL u3 (b_w0) [.bool RS0, .slice A_w0 n0 c_w0, .slice A_w0b n0b c_w0b] := by first | exact KK_w0_2.out.after hb | exact (KK_w0_2.out.alloc (.cells #[.bool false, .slice none 0 0, .slice none 0 0] 30)).after hb
           have KK_w0_3 := Lib.hid T9
           clear T9
           have T9 : HeldL u3 (w5.heap.size) [.bool RS0, .slice A_g0 n0 c_g0, .slice A_g0b n0b c_g0b] := by first | exact KK_g0_2.out.after hb | exact (KK_g0_2.out.alloc (.cells #[.bool false, .slice none 0 0, .slice none 0 0] 30)).after hb
           have KK_g0_3 := Lib.hid T9
           clear T9
           have T9 : OwnV u3 W.heap.size 3 (.slice A_w0 n0 c_w0) (ints R0) := by first | exact OwnV.below (w := u2) HH_w0_2.out hb | exact OwnV.below (w := (u2.alloc (.cells #[.bool false, .slice none 0 0, .slice none 0 0] 30))) (OwnV.below HH_w0_2.out ((Below.refl _ u2).alloc (Nat.le_refl _) (.cells #[.bool false, .slice none 0 0, .slice none 0 0] 30))) hb
           have HH_w0_3 := Lib.hid T9
           clear T9
           have T9 : OwnV u3 W.heap.size 3 (.slice A_w0b n0b c_w0b) (ints R0b) := by first | exact OwnV.below (w := u2) HH_w0b_2.out hb | exact OwnV.below (w := (u2.alloc (.cells #[.bool false, .slice none 0 0, .slice none 0 0] 30))) (OwnV.below HH_w0b_2.out ((Below.refl _ u2).alloc (Nat.le_refl _) (.cells #[.bool false, .slice none 0 0, .slice none 0 0] 30))) hb
           have HH_w0b_3 := Lib.hid T9
           clear T9
           have T9 : OwnV u3 W.heap.size 3 (.slice A_g0 n0 c_g0) (marksI (1) n0) := by first | exact OwnV.below (w := u2) HH_g0_2.out hb | exact OwnV.below (w := (u2.alloc (.cells #[.bool false, .slice none 0 0, .slice none 0 0] 30))) (OwnV.below HH_g0_2.out ((Below.refl _ u2).alloc (Nat.le_refl _) (.cells #[.bool false, .slice none 0 0, .slice none 0 0] 30))) hb
           have HH_g0_3 := Lib.hid T9
           clear T9
           have T9 : OwnV u3 W.heap.size 3 (.slice A_g0b n0b c_g0b) (marksI (1 + n0) n0b) := by first | exact OwnV.below (w := u2) HH_g0b_2.out hb | exact OwnV.below (w := (u2.alloc (.cells #[.bool false, .slice none 0 0, .slice none 0 0] 30))) (OwnV.below HH_g0b_2.out ((Below.refl _ u2).alloc (Nat.le_refl _) (.cells #[.bool false, .slice none 0 0, .slice none 0 0] 30))) hb
           have HH_g0b_3 := Lib.hid T9
           clear T9
           have T9 : OwnV u3 W.heap.size 3 (.slice A_ts0 len0 c_ts0) (ints z0) := by first | exact OwnV.below (w := u2) HH_ts0_2.out hb | exact OwnV.below (w := (u2.alloc (.cells #[.bool false, .slice none 0 0, .slice none 0 0] 30))) (OwnV.below HH_ts0_2.out ((Below.refl _ u2).alloc (Nat.le_refl _) (.cells #[.bool false, .slice none 0 0, .slice none 0 0] 30))) hb
           have HH_ts0_3 := Lib.hid T9
           clear T9
           have T9 : OwnV u3 W.heap.size 3 (.slice A_ts0b len0b c_ts0b) (ints z0b) := by first | exact OwnV.below (w := u2) HH_ts0b_2.out hb | exact OwnV.below (w := (u2.alloc (.cells #[.bool false, .slice none 0 0, .slice none 0 0] 30))) (OwnV.below HH_ts0b_2.out ((Below.refl _ u2).alloc (Nat.le_refl _) (.cells #[.bool false, .slice none 0 0, .slice none 0 0] 30))) hb
           have HH_ts0b_3 := Lib.hid T9
           clear T9
           have T9 : OwnV u3 W.heap.size 3 (.slice A_ts1 len1 c_ts1) (ints z1) := by first | exact OwnV.below (w := u2) HH_ts1_2.out hb | exact OwnV.below (w := (u2.alloc (.cells #[.bool false, .slice none 0 0, .slice none 0 0] 30))) (OwnV.below HH_ts1_2.out ((Below.refl _ u2).alloc (Nat.le_refl _) (.cells #[.bool false, .slice none 0 0, .slice none 0 0] 30))) hb
           have HH_ts1_3 := Lib.hid T9
           clear T9
           have T9 : OwnV u3 W.heap.size 3 (.slice A_ts1b len1b c_ts1b) (ints z1b) := by first | exact OwnV.below (w := u2) HH_ts1b_2.out hb | exact OwnV.below (w := (u2.alloc (.cells #[.bool false, .slice none 0 0, .slice none 0 0] 30))) (OwnV.below HH_ts1b_2.out ((Below.refl _ u2).alloc (Nat.le_refl _) (.cells #[.bool false, .slice none 0 0, .slice none 0 0] 30))) hb
           have HH_ts1b_3 := Lib.hid T9
           clear T9
           have HOn := Lib.hid ho0
           have T9 : OwnV u3 W.heap.size 3 (.slice A_n n0 c_n) (ints R0) := by first | exact ho0.based HHB_2.out.size | exact ho0.based (HHB_2.out.alloc HHB_2.out.size (.cells #[.bool false, .slice none 0 0, .slice none 0 0] 30)).size
           have HH_n := Lib.hid T9
           clear T9 ho0
           have HOnb := Lib.hid ho1
           have T9 : OwnV u3 W.heap.size 3 (.slice A_nb n0b c_nb) (ints R0b) := by first | exact ho1.based HHB_2.out.size | exact ho1.based (HHB_2.out.alloc HHB_2.out.size (.cells #[.bool false, .slice none 0 0, .slice none 0 0] 30)).size
           have HH_nb := Lib.hid T9
           clear T9 ho1
           have T9 : Below W.heap.size W u3 := by first | exact (HHB_2.out).trans (hb.mono (HHB_2.out).size) | exact ((HHB_2.out.alloc HHB_2.out.size (.cells #[.bool false, .slice none 0 0, .slice none 0 0] 30))).trans (hb.mono ((HHB_2.out.alloc HHB_2.out.size (.cells #[.bool false, .slice none 0 0, .slice none 0 0] 30))).size)
           have HHB_3 := Lib.hid T9
           clear T9 hb
           have hka0_0_3 := KK_a0_3.out.cell 0 _ rfl
           have hka0_1_3 := KK_a0_3.out.cell 1 _ rfl
           have hka0_2_3 := KK_a0_3.out.cell 2 _ rfl
           have hka1_0_3 := KK_a1_3.out.cell 0 _ rfl
           have hka1_1_3 := KK_a1_3.out.cell 1 _ rfl
           have hka1_2_3 := KK_a1_3.out.cell 2 _ rfl
           try have hkn0 := KN3.out.cell 0 _ rfl
           try have hkf0 := KN3.out.froz 0 _ rfl
           try have hkn1 := KN3.out.cell 1 _ rfl
           try have hkf1 := KN3.out.froz 1 _ rfl
           try have hkn2 := KN3.out.cell 2 _ rfl
           try have hkf2 := KN3.out.froz 2 _ rfl
           try have hne0 := NE_a0.out
           try have hnf0 := NE_a0.out.symm
           try have hne1 := NE_a1.out
           try have hnf1 := NE_a1.out.symm))
    all_goals go_wp2_with fail
    all_goals go_meet
    all_goals refine ⟨_, A_n, A_nb, c_n, c_nb, rfl, ?_, ?_, ?_, ?_, ?_, ?_, ?_, ?_, ?_, ?_, ?_, ?_, ?_, ?_⟩
    all_goals first
      | exact HeldL.new u3 _ _
      | exact (((KN3.out.set 0 _ _ rfl).set 1 _ _ rfl).set 2 _ _ rfl)
      | exact Hap01.out
      | exact Hap10.out
      | exact OwnV.below HH_n.out ((Below.refl _ u3).alloc (Nat.le_refl _) _)
      | exact (((HOn.out.setBelow HLN3.out _).setBelow HLN3.out _).setBelow HLN3.out _).based (Nat.le_trans HGN.out (Nat.le_of_lt HLN3.out))
      | exact OwnV.below HH_nb.out ((Below.refl _ u3).alloc (Nat.le_refl _) _)
      | exact (((HOnb.out.setBelow HLN3.out _).setBelow HLN3.out _).setBelow HLN3.out _).based (Nat.le_trans HGN.out (Nat.le_of_lt HLN3.out))
      | exact KK_a0_3.out.alloc _
      | exact (((KK_a0_3.out.setOther NE_a0.out _).setOther NE_a0.out _).setOther NE_a0.out _)
      | exact KK_a1_3.out.alloc _
      | exact (((KK_a1_3.out.setOther NE_a1.out _).setOther NE_a1.out _).setOther NE_a1.out _)
      | exact KK_w0_3.out.alloc _
      | exact (((KK_w0_3.out.setOther NE_w0.out _).setOther NE_w0.out _).setOther NE_w0.out _)
      | exact KK_g0_3.out.alloc _
      | exact (((KK_g0_3.out.setOther NE_g0.out _).setOther NE_g0.out _).setOther NE_g0.out _)
      | exact OwnV.below HH_w0_3.out ((Below.refl _ u3).alloc (Nat.le_refl _) _)
      | exact (((HH_w0_3.out.setOther NB_w0.out _).setOther NB_w0.out _).setOther NB_w0.out _)
      | exact OwnV.below HH_w0b_3.out ((Below.refl _ u3).alloc (Nat.le_refl _) _)
      | exact (((HH_w0b_3.out.setOther NB_w0b.out _).setOther NB_w0b.out _).setOther NB_w0b.out _)
      | exact OwnV.below HH_g0_3.out ((Below.refl _ u3).alloc (Nat.le_refl _) _)
      | exact (((HH_g0_3.out.setOther NB_g0.out _).setOther NB_g0.out _).setOther NB_g0.out _)
      | exact OwnV.below HH_g0b_3.out ((Below.refl _ u3).alloc (Nat.le_refl _) _)
      | exact (((HH_g0b_3.out.setOther NB_g0b.out _).setOther NB_g0b.out _).setOther NB_g0b.out _)
      | exact HHB_3.out.alloc HHB_3.out.size _
      | exact (((HHB_3.out.setCell HGN.out _).setCell HGN.out _).setCell HGN.out _)
  clear hk_a0_0_19
  clear hk_a0_1_19
  clear hk_a0_2_19
  clear hk_a1_0_19
  clear hk_a1_1_19
  clear hk_a1_2_19
  clear K_a0_19
  clear K_a1_19
  clear K_w0_19
  clear K_g0_19
  clear H_w0_19
  clear H_w0b_19
  clear H_g0_19
  clear H_g0b_19
  clear HB_19
  obtain ⟨b_h0, A_h0, A_h0b, c_h0, c_h0b, rfl, hkn, hon, honb, hap__b, hap_b_, hk_a0, hk_a1, hk_w0, hk_g0, hr_w0, hr_w0b, hr_g0, hr_g0b, hbw⟩ := hcut
  have K_h0_20 := Lib.hid hkn
  clear hkn
  have H_h0_20 := Lib.hid hon
  clear hon
  have H_h0b_20 := Lib.hid honb
  clear honb
  have AP_h0_h0b := Lib.hid hap__b
  clear hap__b
  have AP_h0b_h0 := Lib.hid hap_b_
  clear hap_b_
  have K_a0_20 := Lib.hid hk_a0
  clear hk_a0
  have K_a1_20 := Lib.hid hk_a1
  clear hk_a1
  have K_w0_20 := Lib.hid hk_w0
  clear hk_w0
  have K_g0_20 := Lib.hid hk_g0
  clear hk_g0
  have H_w0_20 := Lib.hid hr_w0
  clear hr_w0
  have H_w0b_20 := Lib.hid hr_w0b
  clear hr_w0b
  have H_g0_20 := Lib.hid hr_g0
  clear hr_g0
  have H_g0b_20 := Lib.hid hr_g0b
  clear hr_g0b
  have HB_20 := Lib.hid hbw
  clear hbw
  have hk_h0_0_20 := K_h0_20.out.cell 0 _ rfl
  have hk_h0_1_20 := K_h0_20.out.cell 1 _ rfl
  have hk_h0_2_20 := K_h0_20.out.cell 2 _ rfl
  have hk_w0_0_20 := K_w0_20.out.cell 0 _ rfl
  have hk_w0_1_20 := K_w0_20.out.cell 1 _ rfl
  have hk_w0_2_20 := K_w0_20.out.cell 2 _ rfl
  go_wp2_with fail
  refine (eqRat_same RS0 A_h0 A_w0 n0 c_h0 c_w0 R0 A_h0b A_w0b n0b c_h0b c_w0b R0b _ H_h0_20.out.row H_w0_20.out.row H_h0b_20.out.row H_w0b_20.out.row (by unfold maxLen; omega) (by unfold maxLen; omega)).mono ?_
  rintro e w16 ⟨rfl, hb⟩
  have K_a0_21 := Lib.hid (K_a0_20.out.after hb)
  clear K_a0_20
  have K_a1_21 := Lib.hid (K_a1_20.out.after hb)
  clear K_a1_20
  have K_w0_21 := Lib.hid (K_w0_20.out.after hb)
  clear K_w0_20
  have K_g0_21 := Lib.hid (K_g0_20.out.after hb)
  clear K_g0_20
  have K_h0_21 := Lib.hid (K_h0_20.out.after hb)
  clear K_h0_20
  have H_w0_21 := Lib.hid (OwnV.below (w := wc) H_w0_20.out hb)
  clear H_w0_20
  have H_w0b_21 := Lib.hid (OwnV.below (w := wc) H_w0b_20.out hb)
  clear H_w0b_20
  have H_g0_21 := Lib.hid (OwnV.below (w := wc) H_g0_20.out hb)
  clear H_g0_20
  have H_g0b_21 := Lib.hid (OwnV.below (w := wc) H_g0b_20.out hb)
  clear H_g0b_20
  have H_h0_21 := Lib.hid (OwnV.below (w := wc) H_h0_20.out hb)
  clear H_h0_20
  have H_h0b_21 := Lib.hid (OwnV.below (w := wc) H_h0b_20.out hb)
  clear H_h0b_20
  have HB_21 := Lib.hid (HB_20.out.trans (hb.mono HB_20.out.size))
  clear hb HB_20
  clear hk_h0_0_20
  clear hk_h0_1_20
  clear hk_h0_2_20
  clear hk_w0_0_20
  clear hk_w0_1_20
  clear hk_w0_2_20
  have hk_g0_0_21 := K_g0_21.out.cell 0 _ rfl
  have hk_g0_1_21 := K_g0_21.out.cell 1 _ rfl
  have hk_g0_2_21 := K_g0_21.out.cell 2 _ rfl
  go_wp2_with fail
  refine (heldRat_at RS0 A_g0 n0 c_g0 A_g0b n0b c_g0b (1) _ (by first | rfl | omega) _ H_g0_21.out.row H_g0b_21.out.row (by omega)).mono ?_
  rintro e w17 ⟨rfl, hb⟩
  have K_a0_22 := Lib.hid (K_a0_21.out.after hb)
  clear K_a0_21
  have K_a1_22 := Lib.hid (K_a1_21.out.after hb)
  clear K_a1_21
  have K_w0_22 := Lib.hid (K_w0_21.out.after hb)
  clear K_w0_21
  have K_g0_22 := Lib.hid (K_g0_21.out.after hb)
  clear K_g0_21
  have K_h0_22 := Lib.hid (K_h0_21.out.after hb)
  clear K_h0_21
  have H_w0_22 := Lib.hid (OwnV.below (w := w16) H_w0_21.out hb)
  clear H_w0_21
  have H_w0b_22 := Lib.hid (OwnV.below (w := w16) H_w0b_21.out hb)
  clear H_w0b_21
  have H_g0_22 := Lib.hid (OwnV.below (w := w16) H_g0_21.out hb)
  clear H_g0_21
  have H_g0b_22 := Lib.hid (OwnV.below (w := w16) H_g0b_21.out hb)
  clear H_g0b_21
  have H_h0_22 := Lib.hid (OwnV.below (w := w16) H_h0_21.out hb)
  clear H_h0_21
  have H_h0b_22 := Lib.hid (OwnV.below (w := w16) H_h0b_21.out hb)
  clear H_h0b_21
  have HB_22 := Lib.hid (HB_21.out.trans (hb.mono HB_21.out.size))
  clear hb HB_21
  clear hk_g0_0_21
  clear hk_g0_1_21
  clear hk_g0_2_21
  go_wp2
  go_ret
  exact ⟨rfl, HB_22.out⟩

set_option maxRecDepth 100000 in
theorem lifted (os : Os) (started : os.Started) (H : Type) (enc : TypeId × Value → H) :
    ReturnsInHanded {} Try.checked os 6 .any (Rows.fnExactRatDivSpec.pre6 enc Try.prog Try.f6 Rows.fnExactRatDivRow.domain false) (Rows.fnExactRatDivSpec.post enc Try.prog Try.f6 false true false false) := by
  refine returnsInHanded_of_change (C := Try.checked) own started (by kernel_rfl) Try.func6
    (ChangeSpec.witness6 (enc := enc) (C := Try.checked) false ⟨#[], #[.agg #[.bool false, .slice none 0 0, .slice none 0 0], .agg #[.bool false, .slice none 0 0, .slice none 0 0]], []⟩ 8 (by kernel_rfl) (by kernel_rfl) (by kernel_rfl) (by kernel_rfl)) ?_
  intro W base args ds gs before hval0 hW hcnd _
  have hval : ∀ (j : Nat) t v, Try.f6.params[j]? = some t → args[j]? = some v → Value.okWide Try.prog W .any base t v := hval0
  have hW' := hW
  obtain ⟨p, q, hA0, hV, rfl, hfz, hnd⟩ := hW
  have hA : DataW.TrodAll enc Try.prog W 0 (fun _ => true) true Try.f6.params.toList args.toList ds p := hA0
  rw [Try.params6] at hA hval
  obtain ⟨v0, vs0, d0, ds0, p0, q0, hargs, rfl, rfl, h0, r0⟩ := trodAll_cons hA
  obtain ⟨v1, vs1, d1, ds1, p1, q1, rfl, rfl, rfl, h1, r1⟩ := trodAll_cons r0
  obtain ⟨rfl, rfl, rfl⟩ := trodAll_nil r1
  obtain rfl : args = #[v0, v1] := by cases args; simp_all
  obtain ⟨rfl, rfl⟩ := trodVars_none hV
  have k0 := h0
  have lt0 : ∀ x ∈ p0, x.block < W.heap.size := by obtain ⟨m, hm⟩ := k0; exact DataW.trod_lt m _ _ _ hm
  obtain ⟨s0, a0, len0, cap0, z0, a0b, len0b, cap0b, z0b, rfl, w0, w0b⟩ := isRat_of Try.underlying26 Try.underlying24 (by kernel_rfl) (by kernel_rfl) (by kernel_rfl) (by kernel_rfl) (by kernel_rfl) (by kernel_rfl) Try.underlying4 Try.underlying22 Try.underlying22 Try.underlying3 (by kernel_rfl) (hval 0 26 v0 rfl rfl) h0
  have k1 := h1
  have lt1 : ∀ x ∈ p1, x.block < W.heap.size := by obtain ⟨m, hm⟩ := k1; exact DataW.trod_lt m _ _ _ hm
  obtain ⟨s1, a1, len1, cap1, z1, a1b, len1b, cap1b, z1b, rfl, w1, w1b⟩ := isRat_of Try.underlying26 Try.underlying24 (by kernel_rfl) (by kernel_rfl) (by kernel_rfl) (by kernel_rfl) (by kernel_rfl) (by kernel_rfl) Try.underlying4 Try.underlying22 Try.underlying22 Try.underlying3 (by kernel_rfl) (hval 1 26 v1 rfl rfl) h1
  clear hA0 hval0
  refine (walk W s0 a0 len0 cap0 z0 w0 a0b len0b cap0b z0b w0b s1 a1 len1 cap1 z1 w1 a1b len1b cap1b z1b w1b).mono fun e W' ⟨he, bel⟩ => ?_
  subst he
  exact ⟨_, rfl, _, _, _, [], _, [], hW', trodAll_mk1 (shut_bool Try.underlying4 _), (trodAll_cons_mk (Below.trod laidOut (by kernel_rfl) (of_decide_eq_true (by kernel_rfl)) k0 bel lt0) (trodAll_cons_mk (Below.trod laidOut (by kernel_rfl) (of_decide_eq_true (by kernel_rfl)) k1 bel lt1) trodAll_mk0)), rfl, bel.frame _, fun h => by cases h⟩

theorem over : Rows.fnExactRatDivRow.holds Try.pinned (OpenSpec.ofChange Rows.fnExactRatDivSpec) :=
  OpenClaim.holds_of_wide 6 Try.f6 rfl rfl rfl rfl rfl rfl rfl ⟨rfl, rfl, rfl, rfl, rfl⟩ rfl rfl rfl rfl rfl (by kernel_rfl) Try.func6 (by kernel_rfl)
    (of_decide_eq_true (by kernel_rfl)) (by unfold Func.isWrapper; first | (rw [if_pos (by decide +kernel)]; kernel_rfl) | (rw [if_neg (by decide +kernel)]; exact ⟨rfl, rfl⟩))
    (fun os started H enc _ => lifted os started H enc)

theorem proved : Rows.FnExactRatDivSaid := over
#print axioms proved
end Go.Proofs.Ytbbjckihikhdhaa.lawRatDiv
