/- Contracts of the laws' own helpers over fractions: szRat, toRat, eqRat, markRat, heldRat. Conditions: none. -/
import Derived.Test.YtdilbhkdkppodaaProg
import Derived.Test.YtdilbhkdkppodaaHelpB
import Derived.Test.YtdilbhkdkppodaaHeld
namespace Go.Proofs.Ytdilbhkdkppodaa
open Go.RowKit
set_option linter.unusedVariables false

/-- What a function leaves that returns a fraction in new memory: sign, the numerator's limbs, the denominator's. -/
def OwnRR (e : TypeId) (s : Bool) (xs ys : List Value) (w : World) (en : Ending) (w' : World) : Prop :=
  ∃ v0 v1, en = .returned (.agg #[.bool s, v0, v1]) ∧ OwnV w' w.heap.size e v0 xs ∧ OwnV w' w.heap.size e v1 ys ∧ (v0.ownBlock = none ∨ v0.ownBlock ≠ v1.ownBlock) ∧ (v1.ownBlock = none ∨ v1.ownBlock ≠ v0.ownBlock) ∧ Below w.heap.size w w'
/-- A result laid into its variable, block b. -/
theorem ownRR_close {w w2 : World} {e : TypeId} {s : Bool} {v r : Value} {xs ys : List Value} {b b1 b2 : Nat} (hb : Below w.heap.size w w2) (h1 : OwnV w2 b1 e v xs) (h2 : OwnV w2 b2 e r ys) (l1 : b < b1) (l2 : b < b2) (hB : w.heap.size ≤ b) (a1 : v.ownBlock = none ∨ v.ownBlock ≠ r.ownBlock) (a2 : r.ownBlock = none ∨ r.ownBlock ≠ v.ownBlock) :
    OwnRR e s xs ys w (.returned (.agg #[.bool s, v, r])) (((w2.setCell ⟨b, 0, none⟩ (.bool s)).setCell ⟨b, 1, none⟩ v).setCell ⟨b, 2, none⟩ r) :=
  ⟨v, r, rfl, (((h1.setBelow l1 _).setBelow l1 _).setBelow l1 _).based (by omega), (((h2.setBelow l2 _).setBelow l2 _).setBelow l2 _).based (by omega), a1, a2, ((hb.setCell hB _).setCell hB _).setCell hB _⟩
theorem szOf_two {k : Int} {n m : Nat} (h : ¬ k < n) : szOf (k - n) m = szOf k (n + m) := by
  unfold szOf
  by_cases h2 : k - n < m
  · rw [if_pos h2, if_pos (by omega)]
  · rw [if_neg h2, if_neg (by omega)]; omega
theorem szOf_left {k : Int} {n : Nat} (m : Nat) (h : k < n) : szOf k (n + m) = -1 := if_pos (by omega)
set_option maxRecDepth 100000 in
set_option maxHeartbeats 4000000 in
theorem szRat_any (s : Bool) (A : Option Addr) (n c : Nat) (B : Option Addr) (m d : Nat) (k : Int) (w : World) (h0 : 0 ≤ k) (h1 : k ≤ 1048576) (hn : n ≤ 9223372036854775807) (hm : m ≤ 9223372036854775807) :
    Calls Try.prog 23 #[.agg #[.bool s, .slice A n c, .slice B m d], .int .i64 k] w fun e w' => e = .returned (.int .i64 (szOf k (n + m))) ∧ Below w.heap.size w w' := by
  go_enter Try.func23, Try.ntmps23
  have HB_0 := Lib.hid ((Below.refl w.heap.size w).alloc (Nat.le_refl _) (.cells #[.bool s, .slice A n c, .slice B m d] 26))
  have K_a_0 := Lib.hid (HeldL.new_at w (w.heap.size) [.bool s, .slice A n c, .slice B m d] 26 (by first | rfl | simp))
  go_wp2_with fail
  refine (szBigInt_any s A n c k _ h0 h1 hn).mono ?_
  rintro e w1 ⟨rfl, hb⟩
  have K_a_1 := Lib.hid (K_a_0.out.after hb)
  have HB_1 := Lib.hid (HB_0.out.trans (hb.mono HB_0.out.size))
  clear hb
  by_cases h : k < n
  · have HS := Lib.hid (szOf_left m h)
    rw [szOf_neg h]
    go_wp2
    go_ret
    exact ⟨by rw [HS.out]; rfl, HB_1.out⟩
  · have HS := Lib.hid (szOf_two (m := m) h)
    rw [szOf_pos h]
    obtain ⟨q, hq⟩ : ∃ q : Int, k - (n : Int) = q := ⟨_, rfl⟩
    have hq0 : 0 ≤ q ∧ q ≤ 1048576 := by omega
    have hq1 : ¬ q < 0 := by omega
    rw [hq] at HS ⊢
    clear hq h
    have hk_a_0_1 := K_a_1.out.cell 0 _ rfl
    have hk_a_1_1 := K_a_1.out.cell 1 _ rfl
    have hk_a_2_1 := K_a_1.out.cell 2 _ rfl
    go_wp2_with fail
    refine (szIntS_any B m d q _ hq0.1 hq0.2 hm).mono ?_
    rintro e w2 ⟨rfl, rfl⟩
    clear hk_a_0_1
    clear hk_a_1_1
    clear hk_a_2_1
    rw [HS.out]
    by_cases h : k < (n + m : Nat)
    · have HE := Lib.hid (szOf_neg h)
      rw [HE.out]
      clear h
      go_wp2
      go_ret
      exact ⟨by rw [HE.out]; rfl, HB_1.out⟩
    · have HE := Lib.hid (szOf_pos h)
      rw [HE.out]
      obtain ⟨r, hr⟩ : ∃ r : Int, k - ((n + m : Nat) : Int) = r := ⟨_, rfl⟩
      have hr0 : 0 ≤ r := by omega
      have hr1 : ¬ r < 0 := by omega
      have HR := Lib.hid hr
      rw [hr]
      clear hr h
      go_wp2
      go_ret
      exact ⟨by rw [HE.out, HR.out]; rfl, HB_1.out⟩
set_option maxRecDepth 100000 in
set_option maxHeartbeats 4000000 in
theorem toRat_any (s : Bool) (A : Option Addr) (n c : Nat) (xs : List Int) (B : Option Addr) (m d : Nat) (ys : List Int) (w : World) (hA : VRow w A n (ints xs)) (hB : VRow w B m (ints ys)) (hn : n ≤ 1048576) (hm : m ≤ 1048576) :
    Calls Try.prog 27 #[.agg #[.bool s, .slice A n c, .slice B m d]] w (OwnRR 3 s (ints xs) (ints ys) w) := by
  have HA := Lib.hid hA
  have HB := Lib.hid hB
  clear hA hB
  go_enter Try.func27, Try.ntmps27
  have HB_0 := Lib.hid ((((Below.refl w.heap.size w).alloc (Nat.le_refl _) (.cells #[.bool s, .slice A n c, .slice B m d] 26)).alloc (by simp) (.cells #[.bool false, .slice none 0 0, .slice none 0 0] 33)).alloc (by simp; omega) (.cells #[.bool false, .slice none 0 0, .slice none 0 0] 33))
  have K_a_0 := Lib.hid (((HeldL.new_at w (w.heap.size) [.bool s, .slice A n c, .slice B m d] 26 (by first | rfl | simp)).alloc (.cells #[.bool false, .slice none 0 0, .slice none 0 0] 33)).alloc (.cells #[.bool false, .slice none 0 0, .slice none 0 0] 33))
  have K_res_0 := Lib.hid ((HeldL.new_at (w.alloc (.cells #[.bool s, .slice A n c, .slice B m d] 26)) (w.heap.size + 1) [.bool false, .slice none 0 0, .slice none 0 0] 33 (by first | rfl | simp)).alloc (.cells #[.bool false, .slice none 0 0, .slice none 0 0] 33))
  have K_out_0 := Lib.hid (HeldL.new_at ((w.alloc (.cells #[.bool s, .slice A n c, .slice B m d] 26)).alloc (.cells #[.bool false, .slice none 0 0, .slice none 0 0] 33)) (w.heap.size + 1 + 1) [.bool false, .slice none 0 0, .slice none 0 0] 33 (by first | rfl | simp))
  have hne_a_res : w.heap.size ≠ w.heap.size + 1 := by omega
  have hne_a_out : w.heap.size ≠ w.heap.size + 1 + 1 := by omega
  have hne_res_a : w.heap.size + 1 ≠ w.heap.size := by omega
  have hne_res_out : w.heap.size + 1 ≠ w.heap.size + 1 + 1 := by omega
  have hne_out_a : w.heap.size + 1 + 1 ≠ w.heap.size := by omega
  have hne_out_res : w.heap.size + 1 + 1 ≠ w.heap.size + 1 := by omega
  go_wp2_with fail
  refine (toBigInt_any s A n c xs _ (HA.out.below HB_0.out (Nat.le_refl _)) hn).mono ?_
  rintro e w1 ⟨v0, rfl, ho, hb⟩
  obtain ⟨A1, c1, rfl⟩ := ho.shape
  have HO0 := Lib.hid ho
  clear ho
  have K_a_1 := Lib.hid (K_a_0.out.after hb)
  have K_res_1 := Lib.hid (K_res_0.out.after hb)
  have K_out_1 := Lib.hid (K_out_0.out.after hb)
  have HB_1 := Lib.hid (HB_0.out.trans (hb.mono HB_0.out.size))
  clear hb
  have hk_a_0_1 := K_a_1.out.cell 0 _ rfl
  have hk_a_1_1 := K_a_1.out.cell 1 _ rfl
  have hk_a_2_1 := K_a_1.out.cell 2 _ rfl
  have hk_out_0_1 := K_out_1.out.cell 0 _ rfl
  have hk_out_0_1f := K_out_1.out.froz 0 _ rfl
  have hk_out_1_1 := K_out_1.out.cell 1 _ rfl
  have hk_out_1_1f := K_out_1.out.froz 1 _ rfl
  have hk_out_2_1 := K_out_1.out.cell 2 _ rfl
  have hk_out_2_1f := K_out_1.out.froz 2 _ rfl
  go_wp2_with fail
  clear hk_a_0_1
  clear hk_a_1_1
  clear hk_a_2_1
  clear hk_out_0_1
  clear hk_out_0_1f
  clear hk_out_1_1
  clear hk_out_1_1f
  clear hk_out_2_1
  clear hk_out_2_1f
  have K_a_2 := Lib.hid ((K_a_1.out.setOther (p := ⟨w.heap.size + 1 + 1, 0, none⟩) hne_a_out (.bool s)).setOther (p := ⟨w.heap.size + 1 + 1, 1, none⟩) hne_a_out (.slice A1 (ints xs).length c1))
  have K_res_2 := Lib.hid ((K_res_1.out.setOther (p := ⟨w.heap.size + 1 + 1, 0, none⟩) hne_res_out (.bool s)).setOther (p := ⟨w.heap.size + 1 + 1, 1, none⟩) hne_res_out (.slice A1 (ints xs).length c1))
  have K_out_2 := Lib.hid ((K_out_1.out.set 0 (.bool s) _ rfl).set 1 (.slice A1 (ints xs).length c1) _ rfl)
  have H_O0_2 := Lib.hid (OwnV.setBelow (OwnV.setBelow HO0.out (a := ⟨w.heap.size + 1 + 1, 0, none⟩) K_out_0.out.lt (.bool s)) (a := ⟨w.heap.size + 1 + 1, 1, none⟩) K_out_0.out.lt (.slice A1 (ints xs).length c1))
  have HB_2 := Lib.hid ((HB_1.out.setCell (p := ⟨w.heap.size + 1 + 1, 0, none⟩) (by simp; omega) (.bool s)).setCell (p := ⟨w.heap.size + 1 + 1, 1, none⟩) (by simp; omega) (.slice A1 (ints xs).length c1))
  obtain ⟨w2, hw2⟩ : ∃ u, ((w1.setCell ⟨w.heap.size + 1 + 1, 0, none⟩ (.bool s)).setCell ⟨w.heap.size + 1 + 1, 1, none⟩ (.slice A1 (ints xs).length c1)) = u := ⟨_, rfl⟩
  rw [hw2] at K_a_2 K_res_2 K_out_2 H_O0_2 HB_2 ⊢
  clear hw2
  refine (toIntS_any B m d ys _ (HB.out.below HB_2.out (Nat.le_refl _)) hm).mono ?_
  rintro e w3 ⟨v1, rfl, ho, hb⟩
  obtain ⟨A2, c2, rfl⟩ := ho.shape
  have AP0 := Lib.hid (OwnV.apart H_O0_2.out ho (Nat.le_refl _))
  have AP1 := Lib.hid (OwnV.apart' ho H_O0_2.out (Nat.le_refl _))
  have HO1 := Lib.hid ho
  clear ho
  have K_a_3 := Lib.hid (K_a_2.out.after hb)
  have K_res_3 := Lib.hid (K_res_2.out.after hb)
  have K_out_3 := Lib.hid (K_out_2.out.after hb)
  have H_O0_3 := Lib.hid (OwnV.below (w := w2) H_O0_2.out hb)
  have HB_3 := Lib.hid (HB_2.out.trans (hb.mono HB_2.out.size))
  clear hb
  have hk_out_0_3 := K_out_3.out.cell 0 _ rfl
  have hk_out_0_3f := K_out_3.out.froz 0 _ rfl
  have hk_out_1_3 := K_out_3.out.cell 1 _ rfl
  have hk_out_1_3f := K_out_3.out.froz 1 _ rfl
  have hk_out_2_3 := K_out_3.out.cell 2 _ rfl
  have hk_out_2_3f := K_out_3.out.froz 2 _ rfl
  have hk_res_0_3 := K_res_3.out.cell 0 _ rfl
  have hk_res_0_3f := K_res_3.out.froz 0 _ rfl
  have hk_res_1_3 := K_res_3.out.cell 1 _ rfl
  have hk_res_1_3f := K_res_3.out.froz 1 _ rfl
  have hk_res_2_3 := K_res_3.out.cell 2 _ rfl
  have hk_res_2_3f := K_res_3.out.froz 2 _ rfl
  go_wp2
  have hr0 := K_res_3.out.cell 0 _ rfl
  have hr1 := K_res_3.out.cell 1 _ rfl
  have hr2 := K_res_3.out.cell 2 _ rfl
  refine bodyPost_ret (v := .agg #[.bool s, .slice A1 (ints xs).length c1, .slice A2 (ints ys).length c2]) (by simp [results, Try.results27, go_sem, hr0, hr1, hr2]) rfl ?_
  exact ownRR_close (HB_3.out.setCell (by simp; omega) _) (H_O0_3.out.setBelow K_out_0.out.lt _) (HO1.out.setBelow K_out_2.out.lt _) K_res_0.out.lt K_res_2.out.lt (by omega) AP0.out AP1.out
set_option maxRecDepth 100000 in
set_option maxHeartbeats 4000000 in
theorem eqRat_same (s : Bool) (A A' : Option Addr) (n c c' : Nat) (xs : List Int) (B B' : Option Addr) (m d d' : Nat) (ys : List Int) (w : World) (hA : VRow w A n (ints xs)) (hA' : VRow w A' n (ints xs)) (hB : VRow w B m (ints ys)) (hB' : VRow w B' m (ints ys)) (hn : n ≤ maxLen) (hm : m ≤ maxLen) :
    Calls Try.prog 31 #[.agg #[.bool s, .slice A n c, .slice B m d], .agg #[.bool s, .slice A' n c', .slice B' m d']] w fun e w' => e = .returned (.bool true) ∧ Below w.heap.size w w' := by
  have HA := Lib.hid hA
  have HA' := Lib.hid hA'
  have HB := Lib.hid hB
  have HB' := Lib.hid hB'
  clear hA hA' hB hB'
  go_enter Try.func31, Try.ntmps31
  have HB_0 := Lib.hid (((Below.refl w.heap.size w).alloc (Nat.le_refl _) (.cells #[.bool s, .slice A n c, .slice B m d] 33)).alloc (by simp) (.cells #[.bool s, .slice A' n c', .slice B' m d'] 33))
  have K_a_0 := Lib.hid ((HeldL.new_at w (w.heap.size) [.bool s, .slice A n c, .slice B m d] 33 (by first | rfl | simp)).alloc (.cells #[.bool s, .slice A' n c', .slice B' m d'] 33))
  have K_b_0 := Lib.hid (HeldL.new_at (w.alloc (.cells #[.bool s, .slice A n c, .slice B m d] 33)) (w.heap.size + 1) [.bool s, .slice A' n c', .slice B' m d'] 33 (by first | rfl | simp))
  have hne_a_b : w.heap.size ≠ w.heap.size + 1 := by omega
  have hne_b_a : w.heap.size + 1 ≠ w.heap.size := by omega
  go_wp2_with fail
  refine (eqBigInt_same s A A' n c c' xs _ (HA.out.below HB_0.out (Nat.le_refl _)) (HA'.out.below HB_0.out (Nat.le_refl _)) hn).mono ?_
  rintro e w1 ⟨rfl, hb⟩
  have K_a_1 := Lib.hid (K_a_0.out.after hb)
  have K_b_1 := Lib.hid (K_b_0.out.after hb)
  have HB_1 := Lib.hid (HB_0.out.trans (hb.mono HB_0.out.size))
  clear hb
  have hk_a_0_1 := K_a_1.out.cell 0 _ rfl
  have hk_a_1_1 := K_a_1.out.cell 1 _ rfl
  have hk_a_2_1 := K_a_1.out.cell 2 _ rfl
  have hk_b_0_1 := K_b_1.out.cell 0 _ rfl
  have hk_b_1_1 := K_b_1.out.cell 1 _ rfl
  have hk_b_2_1 := K_b_1.out.cell 2 _ rfl
  go_wp2_with fail
  refine (eqIntS_same B B' m d d' ys _ (HB.out.below HB_1.out (Nat.le_refl _)) (HB'.out.below HB_1.out (Nat.le_refl _)) hm).mono ?_
  rintro e w2 ⟨rfl, hb⟩
  have K_a_2 := Lib.hid (K_a_1.out.after hb)
  have K_b_2 := Lib.hid (K_b_1.out.after hb)
  have HB_2 := Lib.hid (HB_1.out.trans (hb.mono HB_1.out.size))
  clear hb
  clear hk_a_0_1
  clear hk_a_1_1
  clear hk_a_2_1
  clear hk_b_0_1
  clear hk_b_1_1
  clear hk_b_2_1
  go_wp2
  go_ret
  exact ⟨rfl, HB_2.out⟩
set_option maxRecDepth 100000 in
set_option maxHeartbeats 4000000 in
theorem markRat_at (s : Bool) (A : Option Addr) (n c : Nat) (B : Option Addr) (m d : Nat) (k base : Nat) (K : Int) (hK : K = (k : Int)) (xs ys : List Value) (w : World) (hA : OwnV w base 3 (.slice A n c) xs) (hB : OwnV w base 3 (.slice B m d) ys) (ap0 : (Value.slice A n c).ownBlock = none ∨ (Value.slice A n c).ownBlock ≠ (Value.slice B m d).ownBlock) (ap1 : (Value.slice B m d).ownBlock = none ∨ (Value.slice B m d).ownBlock ≠ (Value.slice A n c).ownBlock) (hn : k + (n + m) ≤ 1099511627776) :
    Calls Try.prog 36 #[.agg #[.bool s, .slice A n c, .slice B m d], .int .i64 K] w fun e w' => e = .returned (.int .i64 (k + n + m : Nat)) ∧ ∃ wm, w.grownBy wm (Value.slice A n c).ownBlock ∧ wm.grownBy w' (Value.slice B m d).ownBlock ∧ OwnV w' base 3 (.slice A n c) (marksI k n) ∧ OwnV w' base 3 (.slice B m d) (marksI (k + n) m) := by
  have HA := Lib.hid hA
  have HB := Lib.hid hB
  have HK := Lib.hid hK
  have AP0 := Lib.hid ap0
  have AP1 := Lib.hid ap1
  clear hA hB hK ap0 ap1
  go_enter Try.func36, Try.ntmps36
  have KB := Lib.hid (HeldL.new w [.bool s, .slice A n c, .slice B m d] 33)
  go_wp2_with fail
  refine (markBigInt_at s A n c k base K HK.out xs _ (HA.out.below ((Below.refl _ w).alloc (Nat.le_refl _) (.cells #[.bool s, .slice A n c, .slice B m d] 33))) (by omega)).mono ?_
  rintro e w1 ⟨rfl, ho, hg⟩
  have HNB := Lib.hid (show some w.heap.size ≠ (Value.slice A n c).ownBlock by intro he; have := (HA.out.lt _ he.symm).2; omega)
  have K1 := Lib.hid (KB.out.grown hg HNB.out)
  have HB1 := Lib.hid ((HB.out.below ((Below.refl _ w).alloc (Nat.le_refl _) (.cells #[.bool s, .slice A n c, .slice B m d] 33))).kept hg AP1.out)
  have HA1 := Lib.hid ho
  have HG1 := Lib.hid (grown_grown (World.grownBy_alloc w (.cells #[.bool s, .slice A n c, .slice B m d] 33) (Value.slice A n c).ownBlock) hg)
  clear ho hg
  obtain ⟨q, hq⟩ : ∃ q : Int, ((k + n : Nat) : Int) = q := ⟨_, rfl⟩
  have HQ := Lib.hid hq
  rw [hq]
  clear hq
  have hc2 := K1.out.cell 2 _ rfl
  go_wp2_with fail
  refine (markIntS_at B m d (k + n) base q HQ.out.symm ys _ HB1.out (by omega)).mono ?_
  rintro e w2 ⟨rfl, ho, hg⟩
  have HB2 := Lib.hid ho
  have HA2 := Lib.hid (HA1.out.kept hg AP0.out)
  have HG2 := Lib.hid hg
  clear ho hg hc2
  obtain ⟨r, hr⟩ : ∃ r : Int, ((k + n + m : Nat) : Int) = r := ⟨_, rfl⟩
  have HR := Lib.hid hr
  rw [hr]
  clear hr
  go_wp2
  go_ret
  exact ⟨by rw [HR.out]; rfl, w1, HG1.out, HG2.out, HA2.out, HB2.out⟩
set_option maxRecDepth 100000 in
set_option maxHeartbeats 4000000 in
theorem heldRat_at (s : Bool) (A : Option Addr) (n c : Nat) (B : Option Addr) (m d : Nat) (k : Nat) (K : Int) (hK : K = (k : Int)) (w : World) (hA : VRow w A n (marksI k n)) (hB : VRow w B m (marksI (k + n) m)) (hn : k + (n + m) ≤ 1099511627776) :
    Calls Try.prog 37 #[.agg #[.bool s, .slice A n c, .slice B m d], .int .i64 K] w fun e w' => e = .returned (.int .i64 (k + n + m : Nat)) ∧ Below w.heap.size w w' := by
  have HA := Lib.hid hA
  have HB := Lib.hid hB
  have HK := Lib.hid hK
  clear hA hB hK
  go_enter Try.func37, Try.ntmps37
  have HB_0 := Lib.hid ((Below.refl w.heap.size w).alloc (Nat.le_refl _) (.cells #[.bool s, .slice A n c, .slice B m d] 33))
  have K_a_0 := Lib.hid (HeldL.new_at w (w.heap.size) [.bool s, .slice A n c, .slice B m d] 33 (by first | rfl | simp))
  go_wp2_with fail
  refine (heldBigInt_at s A n c k K HK.out _ (HA.out.below HB_0.out (Nat.le_refl _)) (by omega)).mono ?_
  rintro e w1 ⟨rfl, hb⟩
  have K_a_1 := Lib.hid (K_a_0.out.after hb)
  have HB_1 := Lib.hid (HB_0.out.trans (hb.mono HB_0.out.size))
  clear hb
  obtain ⟨q, hq⟩ : ∃ q : Int, ((k + n : Nat) : Int) = q := ⟨_, rfl⟩
  have HQ := Lib.hid hq
  have hq0 : 0 ≤ q := by omega
  have hq1 : ¬ q < 0 := by omega
  rw [hq]
  clear hq
  have hk_a_0_1 := K_a_1.out.cell 0 _ rfl
  have hk_a_1_1 := K_a_1.out.cell 1 _ rfl
  have hk_a_2_1 := K_a_1.out.cell 2 _ rfl
  go_wp2_with fail
  refine (heldIntS_at B m d (k + n) q HQ.out.symm _ (HB.out.below HB_1.out (Nat.le_refl _)) (by omega)).mono ?_
  rintro e w2 ⟨rfl, hb⟩
  have K_a_2 := Lib.hid (K_a_1.out.after hb)
  have HB_2 := Lib.hid (HB_1.out.trans (hb.mono HB_1.out.size))
  clear hb
  clear hk_a_0_1
  clear hk_a_1_1
  clear hk_a_2_1
  obtain ⟨r, hr⟩ : ∃ r : Int, ((k + n + m : Nat) : Int) = r := ⟨_, rfl⟩
  have HR := Lib.hid hr
  have hr0 : 0 ≤ r := by omega
  have hr1 : ¬ r < 0 := by omega
  rw [hr]
  clear hr
  go_wp2
  go_ret
  exact ⟨by rw [HR.out]; rfl, HB_2.out⟩
end Go.Proofs.Ytdilbhkdkppodaa
