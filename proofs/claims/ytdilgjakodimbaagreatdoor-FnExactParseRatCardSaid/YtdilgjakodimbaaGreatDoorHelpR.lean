/- Contracts of the laws' own helpers over fractions: szRat, toRat, eqRat, markRat, heldRat. Conditions: none. -/
import Derived.Test.YtdilgjakodimbaaGreatDoorProg
import Derived.Test.YtdilgjakodimbaaGreatDoorHelpB
import Derived.Test.YtdilgjakodimbaaGreatDoorHeld
namespace Go.Proofs.YtdilgjakodimbaaGreatDoor
open Go.RowKit
set_option linter.unusedVariables false

/-- What a function leaves that returns a fraction in new memory: sign, the numerator's limbs, the denominator's. -/
def OwnRR (e : TypeId) (s : Bool) (xs ys : List Value) (w : World) (en : Ending) (w' : World) : Prop :=
  ∃ v0 v1, en = .returned (.agg #[.bool s, v0, v1]) ∧ OwnV w' w.heap.size e v0 xs ∧ OwnV w' w.heap.size e v1 ys ∧ (v0.ownBlock = none ∨ v0.ownBlock ≠ v1.ownBlock) ∧ (v1.ownBlock = none ∨ v1.ownBlock ≠ v0.ownBlock) ∧ Below w.heap.size w w'
/-- A result laid into its variable, block b. -/
theorem ownRR_close {w w2 : World} {e : TypeId} {s : Bool} {v r : Value} {xs ys : List Value} {b b1 b2 : Nat} (hb : Below w.heap.size w w2) (h1 : OwnV w2 b1 e v xs) (h2 : OwnV w2 b2 e r ys) (l1 : b < b1) (l2 : b < b2) (hB : w.heap.size ≤ b) (a1 : v.ownBlock = none ∨ v.ownBlock ≠ r.ownBlock) (a2 : r.ownBlock = none ∨ r.ownBlock ≠ v.ownBlock) :
    OwnRR e s xs ys w (.returned (.agg #[.bool s, v, r])) (((w2.setCell ⟨b, 0, none⟩ (.bool s)).setCell ⟨b, 1, none⟩ v).setCell ⟨b, 2, none⟩ r) :=
  ⟨v, r, rfl, (((h1.setBelow l1 _).setBelow l1 _).setBelow l1 _).based (by omega), (((h2.setBelow l2 _).setBelow l2 _).setBelow l2 _).based (by omega), a1, a2, ((hb.setCell hB _).setCell hB _).setCell hB _⟩
theorem szOf_two {k : Int} {n m : Nat} (h : ¬ k < n) : szOf (k - n) m = szOf k (n + m) := by
  unfold szOf
  by_cases h2 : k - n < m
  · rw [if_pos h2, if_pos (by omega)]
  · rw [if_neg h2, if_neg (by omega)]; omega
theorem szOf_left {k : Int} {n : Nat} (m : Nat) (h : k < n) : szOf k (n + m) = -1 := if_pos (by omega)
set_option maxRecDepth 100000 in
set_option maxHeartbeats 4000000 in
theorem eqRat_same (s : Bool) (A A' : Option Addr) (n c c' : Nat) (xs : List Int) (B B' : Option Addr) (m d d' : Nat) (ys : List Int) (w : World) (hA : VRow w A n (ints xs)) (hA' : VRow w A' n (ints xs)) (hB : VRow w B m (ints ys)) (hB' : VRow w B' m (ints ys)) (hn : n ≤ maxLen) (hm : m ≤ maxLen) :
    Calls Tryz.prog 6 #[.agg #[.bool s, .slice A n c, .slice B m d], .agg #[.bool s, .slice A' n c', .slice B' m d']] w fun e w' => e = .returned (.bool true) ∧ Below w.heap.size w w' := by
  have HA := Lib.hid hA
  have HA' := Lib.hid hA'
  have HB := Lib.hid hB
  have HB' := Lib.hid hB'
  clear hA hA' hB hB'
  go_enter Tryz.func6, Tryz.ntmps6
  have HB_0 := Lib.hid (((Below.refl w.heap.size w).alloc (Nat.le_refl _) (.cells #[.bool s, .slice A n c, .slice B m d] 26)).alloc (by simp) (.cells #[.bool s, .slice A' n c', .slice B' m d'] 26))
  have K_a_0 := Lib.hid ((HeldL.new_at w (w.heap.size) [.bool s, .slice A n c, .slice B m d] 26 (by first | rfl | simp)).alloc (.cells #[.bool s, .slice A' n c', .slice B' m d'] 26))
  have K_b_0 := Lib.hid (HeldL.new_at (w.alloc (.cells #[.bool s, .slice A n c, .slice B m d] 26)) (w.heap.size + 1) [.bool s, .slice A' n c', .slice B' m d'] 26 (by first | rfl | simp))
  have hne_a_b : w.heap.size ≠ w.heap.size + 1 := by omega
  have hne_b_a : w.heap.size + 1 ≠ w.heap.size := by omega
  go_wp2_with fail
  refine (eqBigInt_same s A A' n c c' xs _ (HA.out.below HB_0.out (Nat.le_refl _)) (HA'.out.below HB_0.out (Nat.le_refl _)) hn).mono ?_
  rintro e w1 ⟨rfl, hb⟩
  have K_a_1 := Lib.hid (K_a_0.out.after hb)
  have K_b_1 := Lib.hid (K_b_0.out.after hb)
  have HB_1 := Lib.hid (HB_0.out.trans (hb.mono HB_0.out.size))
  clear hb
  have hk_a_0_1 := K_a_1.out.cell 0 _ rfl
  have hk_a_1_1 := K_a_1.out.cell 1 _ rfl
  have hk_a_2_1 := K_a_1.out.cell 2 _ rfl
  have hk_b_0_1 := K_b_1.out.cell 0 _ rfl
  have hk_b_1_1 := K_b_1.out.cell 1 _ rfl
  have hk_b_2_1 := K_b_1.out.cell 2 _ rfl
  go_wp2_with fail
  refine (eqIntS_same B B' m d d' ys _ (HB.out.below HB_1.out (Nat.le_refl _)) (HB'.out.below HB_1.out (Nat.le_refl _)) hm).mono ?_
  rintro e w2 ⟨rfl, hb⟩
  have K_a_2 := Lib.hid (K_a_1.out.after hb)
  have K_b_2 := Lib.hid (K_b_1.out.after hb)
  have HB_2 := Lib.hid (HB_1.out.trans (hb.mono HB_1.out.size))
  clear hb
  clear hk_a_0_1
  clear hk_a_1_1
  clear hk_a_2_1
  clear hk_b_0_1
  clear hk_b_1_1
  clear hk_b_2_1
  go_wp2
  go_ret
  exact ⟨rfl, HB_2.out⟩
set_option maxRecDepth 100000 in
set_option maxHeartbeats 4000000 in
theorem markRat_at (s : Bool) (A : Option Addr) (n c : Nat) (B : Option Addr) (m d : Nat) (k base : Nat) (K : Int) (hK : K = (k : Int)) (xs ys : List Value) (w : World) (hA : OwnV w base 3 (.slice A n c) xs) (hB : OwnV w base 3 (.slice B m d) ys) (ap0 : (Value.slice A n c).ownBlock = none ∨ (Value.slice A n c).ownBlock ≠ (Value.slice B m d).ownBlock) (ap1 : (Value.slice B m d).ownBlock = none ∨ (Value.slice B m d).ownBlock ≠ (Value.slice A n c).ownBlock) (hn : k + (n + m) ≤ 1099511627776) :
    Calls Tryz.prog 7 #[.agg #[.bool s, .slice A n c, .slice B m d], .int .i64 K] w fun e w' => e = .returned (.int .i64 (k + n + m : Nat)) ∧ ∃ wm, w.grownBy wm (Value.slice A n c).ownBlock ∧ wm.grownBy w' (Value.slice B m d).ownBlock ∧ OwnV w' base 3 (.slice A n c) (marksI k n) ∧ OwnV w' base 3 (.slice B m d) (marksI (k + n) m) := by
  have HA := Lib.hid hA
  have HB := Lib.hid hB
  have HK := Lib.hid hK
  have AP0 := Lib.hid ap0
  have AP1 := Lib.hid ap1
  clear hA hB hK ap0 ap1
  go_enter Tryz.func7, Tryz.ntmps7
  have KB := Lib.hid (HeldL.new w [.bool s, .slice A n c, .slice B m d] 26)
  go_wp2_with fail
  refine (markBigInt_at s A n c k base K HK.out xs _ (HA.out.below ((Below.refl _ w).alloc (Nat.le_refl _) (.cells #[.bool s, .slice A n c, .slice B m d] 26))) (by omega)).mono ?_
  rintro e w1 ⟨rfl, ho, hg⟩
  have HNB := Lib.hid (show some w.heap.size ≠ (Value.slice A n c).ownBlock by intro he; have := (HA.out.lt _ he.symm).2; omega)
  have K1 := Lib.hid (KB.out.grown hg HNB.out)
  have HB1 := Lib.hid ((HB.out.below ((Below.refl _ w).alloc (Nat.le_refl _) (.cells #[.bool s, .slice A n c, .slice B m d] 26))).kept hg AP1.out)
  have HA1 := Lib.hid ho
  have HG1 := Lib.hid (grown_grown (World.grownBy_alloc w (.cells #[.bool s, .slice A n c, .slice B m d] 26) (Value.slice A n c).ownBlock) hg)
  clear ho hg
  obtain ⟨q, hq⟩ : ∃ q : Int, ((k + n : Nat) : Int) = q := ⟨_, rfl⟩
  have HQ := Lib.hid hq
  rw [hq]
  clear hq
  have hc2 := K1.out.cell 2 _ rfl
  go_wp2_with fail
  refine (markIntS_at B m d (k + n) base q HQ.out.symm ys _ HB1.out (by omega)).mono ?_
  rintro e w2 ⟨rfl, ho, hg⟩
  have HB2 := Lib.hid ho
  have HA2 := Lib.hid (HA1.out.kept hg AP0.out)
  have HG2 := Lib.hid hg
  clear ho hg hc2
  obtain ⟨r, hr⟩ : ∃ r : Int, ((k + n + m : Nat) : Int) = r := ⟨_, rfl⟩
  have HR := Lib.hid hr
  rw [hr]
  clear hr
  go_wp2
  go_ret
  exact ⟨by rw [HR.out]; rfl, w1, HG1.out, HG2.out, HA2.out, HB2.out⟩
set_option maxRecDepth 100000 in
set_option maxHeartbeats 4000000 in
theorem heldRat_at (s : Bool) (A : Option Addr) (n c : Nat) (B : Option Addr) (m d : Nat) (k : Nat) (K : Int) (hK : K = (k : Int)) (w : World) (hA : VRow w A n (marksI k n)) (hB : VRow w B m (marksI (k + n) m)) (hn : k + (n + m) ≤ 1099511627776) :
    Calls Tryz.prog 8 #[.agg #[.bool s, .slice A n c, .slice B m d], .int .i64 K] w fun e w' => e = .returned (.int .i64 (k + n + m : Nat)) ∧ Below w.heap.size w w' := by
  have HA := Lib.hid hA
  have HB := Lib.hid hB
  have HK := Lib.hid hK
  clear hA hB hK
  go_enter Tryz.func8, Tryz.ntmps8
  have HB_0 := Lib.hid ((Below.refl w.heap.size w).alloc (Nat.le_refl _) (.cells #[.bool s, .slice A n c, .slice B m d] 26))
  have K_a_0 := Lib.hid (HeldL.new_at w (w.heap.size) [.bool s, .slice A n c, .slice B m d] 26 (by first | rfl | simp))
  go_wp2_with fail
  refine (heldBigInt_at s A n c k K HK.out _ (HA.out.below HB_0.out (Nat.le_refl _)) (by omega)).mono ?_
  rintro e w1 ⟨rfl, hb⟩
  have K_a_1 := Lib.hid (K_a_0.out.after hb)
  have HB_1 := Lib.hid (HB_0.out.trans (hb.mono HB_0.out.size))
  clear hb
  obtain ⟨q, hq⟩ : ∃ q : Int, ((k + n : Nat) : Int) = q := ⟨_, rfl⟩
  have HQ := Lib.hid hq
  have hq0 : 0 ≤ q := by omega
  have hq1 : ¬ q < 0 := by omega
  rw [hq]
  clear hq
  have hk_a_0_1 := K_a_1.out.cell 0 _ rfl
  have hk_a_1_1 := K_a_1.out.cell 1 _ rfl
  have hk_a_2_1 := K_a_1.out.cell 2 _ rfl
  go_wp2_with fail
  refine (heldIntS_at B m d (k + n) q HQ.out.symm _ (HB.out.below HB_1.out (Nat.le_refl _)) (by omega)).mono ?_
  rintro e w2 ⟨rfl, hb⟩
  have K_a_2 := Lib.hid (K_a_1.out.after hb)
  have HB_2 := Lib.hid (HB_1.out.trans (hb.mono HB_1.out.size))
  clear hb
  clear hk_a_0_1
  clear hk_a_1_1
  clear hk_a_2_1
  obtain ⟨r, hr⟩ : ∃ r : Int, ((k + n + m : Nat) : Int) = r := ⟨_, rfl⟩
  have HR := Lib.hid hr
  have hr0 : 0 ≤ r := by omega
  have hr1 : ¬ r < 0 := by omega
  rw [hr]
  clear hr
  go_wp2
  go_ret
  exact ⟨by rw [HR.out]; rfl, HB_2.out⟩
end Go.Proofs.YtdilgjakodimbaaGreatDoor
