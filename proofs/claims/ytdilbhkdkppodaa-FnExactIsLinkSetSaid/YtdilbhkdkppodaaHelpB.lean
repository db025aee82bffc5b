/- Contracts of the laws' own helpers over big integers: szBigInt, toBigInt, eqBigInt, markBigInt, heldBigInt. Conditions: none. -/
import Derived.Test.YtdilbhkdkppodaaProg
import Derived.Test.YtdilbhkdkppodaaHelpI
namespace Go.Proofs.Ytdilbhkdkppodaa
open Go.RowKit
set_option linter.unusedVariables false

/-- What a function leaves that returns a sign and the cells xs in new memory. -/
def OwnRB (e : TypeId) (s : Bool) (xs : List Value) (w : World) (en : Ending) (w' : World) : Prop :=
  ∃ v, en = .returned (.agg #[.bool s, v]) ∧ OwnV w' w.heap.size e v xs ∧ Below w.heap.size w w'

theorem OwnV.setBelow {w : World} {base : Nat} {e : TypeId} {v : Value} {xs : List Value} (h : OwnV w base e v xs) {a : Addr} (ha : a.block < base) (u : Value) : OwnV (w.setCell a u) base e v xs := by
  rcases h with ⟨h1, h2⟩ | ⟨g, c, ys, h1, h2, h3, h4, h5⟩
  · exact .inl ⟨h1, h2⟩
  · exact .inr ⟨g, c, ys, h1, h2, h3, ownsRow_setCell_below h4 ha u, h5⟩
/-- A result laid into its variable, block b. -/
theorem ownRB_close {w w2 : World} {e : TypeId} {s : Bool} {v : Value} {xs : List Value} {b base : Nat} (hb : Below w.heap.size w w2) (ho : OwnV w2 base e v xs) (hlt : b < base) (hB : w.heap.size ≤ b) :
    OwnRB e s xs w (.returned (.agg #[.bool s, v])) ((w2.setCell ⟨b, 0, none⟩ (.bool s)).setCell ⟨b, 1, none⟩ v) :=
  ⟨v, rfl, ((ho.setBelow hlt _).setBelow hlt _).based (by omega), (hb.setCell hB _).setCell hB _⟩
/-- The block b holds the two cells x, y and may be written to. -/
structure Held (u : World) (b : Nat) (x y : Value) : Prop where
  lt : b < u.heap.size
  c0 : u.cell? ⟨b, 0, none⟩ = some x
  c1 : u.cell? ⟨b, 1, none⟩ = some y
  f0 : u.frozen? ⟨b, 0, none⟩ = false
  f1 : u.frozen? ⟨b, 1, none⟩ = false
theorem Held.below {u u' : World} {B b : Nat} {x y : Value} (h : Held u b x y) (hb : Below B u u') (hB : b < B) : Held u' b x y :=
  ⟨Nat.lt_of_lt_of_le h.lt hb.size, (hb.cell (p := ⟨b, 0, none⟩) hB).trans h.c0, (hb.cell (p := ⟨b, 1, none⟩) hB).trans h.c1, (hb.frozen (p := ⟨b, 0, none⟩) hB).trans h.f0, (hb.frozen (p := ⟨b, 1, none⟩) hB).trans h.f1⟩
theorem Held.after {u u' : World} {b : Nat} {x y : Value} (h : Held u b x y) (hb : Below u.heap.size u u') : Held u' b x y := h.below hb h.lt
theorem Held.drew {u : World} {b : Nat} {x y : Value} (h : Held u b x y) : Held u.drew b x y := ⟨h.lt, h.c0, h.c1, h.f0, h.f1⟩
theorem Held.new (u : World) (x y : Value) (t : TypeId) : Held (u.alloc (.cells #[x, y] t)) u.heap.size x y :=
  ⟨by simp, by simp [go_sem], by simp [go_sem], by simp [go_sem], by simp [go_sem]⟩
theorem Held.new_at (u : World) (b : Nat) (x y : Value) (t : TypeId) (h : u.heap.size = b) : Held (u.alloc (.cells #[x, y] t)) b x y := h ▸ Held.new u x y t
theorem Held.alloc {u : World} {b : Nat} {x y : Value} (h : Held u b x y) (o : Obj) : Held (u.alloc o) b x y := h.after ((Below.refl _ _).alloc (Nat.le_refl _) o)
theorem Held.grown {u u' : World} {b : Nat} {x y : Value} {row : Option Nat} (h : Held u b x y) (hg : u.grownBy u' row) (hne : some b ≠ row) : Held u' b x y :=
  have e := hg.block b h.lt hne
  ⟨Nat.lt_of_lt_of_le h.lt hg.size, (World.cell?_of_block (w := u) (a := ⟨b, 0, none⟩) e).trans h.c0, (World.cell?_of_block (w := u) (a := ⟨b, 1, none⟩) e).trans h.c1, (World.frozen?_of_block (w := u) (a := ⟨b, 0, none⟩) e).trans h.f0, (World.frozen?_of_block (w := u) (a := ⟨b, 1, none⟩) e).trans h.f1⟩
theorem Held.setOther {u : World} {b : Nat} {x y : Value} (h : Held u b x y) {p : Addr} (hp : b ≠ p.block) (v : Value) : Held (u.setCell p v) b x y :=
  have e := Below.heap_setCell u p v b hp
  ⟨by rw [World.size_setCell]; exact h.lt, (World.cell?_of_block (w := u) (a := ⟨b, 0, none⟩) e).trans h.c0, (World.cell?_of_block (w := u) (a := ⟨b, 1, none⟩) e).trans h.c1, (World.frozen?_of_block (w := u) (a := ⟨b, 0, none⟩) e).trans h.f0, (World.frozen?_of_block (w := u) (a := ⟨b, 1, none⟩) e).trans h.f1⟩
theorem Held.set0 {u : World} {b : Nat} {x y : Value} (h : Held u b x y) (v : Value) : Held (u.setCell ⟨b, 0, none⟩ v) b v y :=
  ⟨by rw [World.size_setCell]; exact h.lt, World.cell?_setCell_same _ _ _ h.c0, (World.cell?_setCell_other _ _ _ _ (by simp)).trans h.c1, by have := h.f0; simpa [go_sem] using this, by have := h.f1; simpa [go_sem] using this⟩
theorem Held.set1 {u : World} {b : Nat} {x y : Value} (h : Held u b x y) (v : Value) : Held (u.setCell ⟨b, 1, none⟩ v) b x v :=
  ⟨by rw [World.size_setCell]; exact h.lt, (World.cell?_setCell_other _ _ _ _ (by simp)).trans h.c0, World.cell?_setCell_same _ _ _ h.c1, by have := h.f0; simpa [go_sem] using this, by have := h.f1; simpa [go_sem] using this⟩
/-- What is left of k behind n integers. -/
def szOf (k : Int) (n : Nat) : Int := if k < n then -1 else k - n
theorem szOf_neg {k : Int} {n : Nat} (h : k < n) : szOf k n = -1 := if_pos h
theorem szOf_pos {k : Int} {n : Nat} (h : ¬ k < n) : szOf k n = k - n := if_neg h

set_option maxRecDepth 100000 in
theorem szIntS_any (A : Option Addr) (n c : Nat) (k : Int) (w : World) (h0 : 0 ≤ k) (h1 : k ≤ 1048576) (hn : n ≤ 9223372036854775807) :
    Calls Try.prog 44 #[.slice A n c, .int .i64 k] w fun e w' => e = .returned (.int .i64 (szOf k n)) ∧ w' = w := by
  by_cases h : k < n
  · rw [szOf_neg h]
    go_enter Try.func44, Try.ntmps44
    go_wp2
    go_ret
    exact ⟨rfl, rfl⟩
  · rw [szOf_pos h]
    go_enter Try.func44, Try.ntmps44
    go_wp2
    go_ret
    exact ⟨rfl, rfl⟩
set_option maxRecDepth 100000 in
theorem szBigInt_any (s : Bool) (A : Option Addr) (n c : Nat) (k : Int) (w : World) (h0 : 0 ≤ k) (h1 : k ≤ 1048576) (hn : n ≤ 9223372036854775807) :
    Calls Try.prog 43 #[.agg #[.bool s, .slice A n c], .int .i64 k] w fun e w' => e = .returned (.int .i64 (szOf k n)) ∧ Below w.heap.size w w' := by
  go_enter Try.func43, Try.ntmps43
  go_wp2_with fail
  refine (szIntS_any A n c k _ h0 h1 hn).mono ?_
  rintro e w1 ⟨rfl, rfl⟩
  by_cases h : k < n
  · have hs := szOf_neg h
    have HS := Lib.hid hs
    rw [hs]
    clear hs
    go_wp2
    go_ret
    exact ⟨by rw [HS.out]; rfl, (Below.refl _ _).alloc (Nat.le_refl _) _⟩
  · have hs := szOf_pos h
    have HS := Lib.hid hs
    rw [hs]
    clear hs
    go_wp2
    go_ret
    exact ⟨by rw [HS.out]; rfl, (Below.refl _ _).alloc (Nat.le_refl _) _⟩
set_option maxRecDepth 100000 in
theorem toBigInt_any (s : Bool) (A : Option Addr) (n c : Nat) (xs : List Int) (w : World) (hA : VRow w A n (ints xs)) (hn : n ≤ 1048576) :
    Calls Try.prog 49 #[.agg #[.bool s, .slice A n c]] w (OwnRB 3 s (ints xs) w) := by
  have HA := Lib.hid hA
  clear hA
  go_enter Try.func49, Try.ntmps49
  go_wp2_with fail
  refine (toIntS_any A n c xs _ (HA.out.below (B := w.heap.size) ((((Below.refl w.heap.size w).alloc (Nat.le_refl _) _).alloc (by simp) _).alloc (by simp; omega) _) (Nat.le_refl _)) hn).mono ?_
  rintro e w4 ⟨v, rfl, ho, hb⟩
  have hc0 : w4.cell? ⟨w.heap.size + 1 + 1, 0, none⟩ = some (.bool s) := by rw [hb.cell (by simp)]; simp [go_sem]
  have hc1 : w4.cell? ⟨w.heap.size + 1 + 1, 1, none⟩ = some (.slice none 0 0) := by rw [hb.cell (by simp)]; simp [go_sem]
  have hf0 : w4.frozen? ⟨w.heap.size + 1 + 1, 1, none⟩ = false := by rw [hb.frozen (by simp)]; simp [go_sem]
  have hd0 : w4.cell? ⟨w.heap.size + 1, 0, none⟩ = some (.bool false) := by rw [hb.cell (by simp)]; simp [go_sem]
  have hd1 : w4.cell? ⟨w.heap.size + 1, 1, none⟩ = some (.slice none 0 0) := by rw [hb.cell (by simp)]; simp [go_sem]
  have hf1 : w4.frozen? ⟨w.heap.size + 1, 0, none⟩ = false := by rw [hb.frozen (by simp)]; simp [go_sem]
  have hf2 : w4.frozen? ⟨w.heap.size + 1, 1, none⟩ = false := by rw [hb.frozen (by simp)]; simp [go_sem]
  obtain ⟨A4, c4, rfl⟩ := ho.shape
  have HO := Lib.hid ho
  have HB := Lib.hid hb
  clear ho hb
  go_wp2
  refine bodyPost_ret (v := .agg #[.bool s, .slice A4 (ints xs).length c4]) (by simp [results, Try.results49, go_sem, hd0, hd1]) rfl ⟨_, rfl, ?_, ?_⟩
  · exact (((HO.out.setBelow (by simp) _).setBelow (by simp) _).setBelow (by simp) _).based (by simp; omega)
  · exact (((((((Below.refl w.heap.size w).alloc (Nat.le_refl _) _).alloc (by simp) _).alloc (by simp; omega) _).trans (HB.out.mono (by simp; omega))).setCell (by simp; omega) _).setCell (by simp) _).setCell (by simp) _
set_option maxRecDepth 100000 in
theorem eqBigInt_same (s : Bool) (A B : Option Addr) (n c d : Nat) (xs : List Int) (w : World) (hA : VRow w A n (ints xs)) (hB : VRow w B n (ints xs)) (hn : n ≤ maxLen) :
    Calls Try.prog 53 #[.agg #[.bool s, .slice A n c], .agg #[.bool s, .slice B n d]] w fun e w' => e = .returned (.bool true) ∧ Below w.heap.size w w' := by
  have HA := Lib.hid hA
  have HB := Lib.hid hB
  clear hA hB
  go_enter Try.func53, Try.ntmps53
  have HW := Lib.hid (((Below.refl w.heap.size w).alloc (Nat.le_refl _) (.cells #[.bool s, .slice A n c] 31)).alloc (by simp) (.cells #[.bool s, .slice B n d] 31))
  go_wp2_with fail
  refine (eqIntS_same A B n c d xs _ (HA.out.below HW.out (Nat.le_refl _)) (HB.out.below HW.out (Nat.le_refl _)) hn).mono ?_
  rintro e w1 ⟨rfl, hb⟩
  have HB1 := Lib.hid (HW.out.trans (hb.mono (by simp; omega)))
  clear hb
  go_wp2
  go_ret
  exact ⟨rfl, HB1.out⟩
set_option maxRecDepth 100000 in
set_option maxHeartbeats 1000000 in
theorem markBigInt_at (s : Bool) (A : Option Addr) (n c k base : Nat) (K : Int) (hK : K = (k : Int)) (xs : List Value) (w : World) (hown : OwnV w base 3 (.slice A n c) xs) (hn : k + n ≤ 1099511627776) :
    Calls Try.prog 57 #[.agg #[.bool s, .slice A n c], .int .i64 K] w fun e w' => e = .returned (.int .i64 (k + n : Nat)) ∧ OwnV w' base 3 (.slice A n c) (marksI k n) ∧ w.grownBy w' (Value.slice A n c).ownBlock := by
  have HO := Lib.hid hown
  have HK := Lib.hid hK
  clear hown hK
  go_enter Try.func57, Try.ntmps57
  go_wp2_with fail
  refine (markIntS_at A n c k base K HK.out xs _ (HO.out.below ((Below.refl _ _).alloc (Nat.le_refl _) _)) hn).mono ?_
  rintro e w1 ⟨rfl, ho, hg⟩
  have HO1 := Lib.hid ho
  have HG := Lib.hid hg
  clear ho hg
  obtain ⟨q, hq⟩ : ∃ q : Int, ((k + n : Nat) : Int) = q := ⟨_, rfl⟩
  have HQ := Lib.hid hq
  rw [hq]
  clear hq
  go_wp2
  go_ret
  exact ⟨by rw [HQ.out]; rfl, HO1.out, grown_grown (World.grownBy_alloc _ _ _) HG.out⟩
set_option maxRecDepth 100000 in
set_option maxHeartbeats 1000000 in
theorem heldBigInt_at (s : Bool) (A : Option Addr) (n c k : Nat) (K : Int) (hK : K = (k : Int)) (w : World) (hA : VRow w A n (marksI k n)) (hn : k + n ≤ 1099511627776) :
    Calls Try.prog 59 #[.agg #[.bool s, .slice A n c], .int .i64 K] w fun e w' => e = .returned (.int .i64 (k + n : Nat)) ∧ Below w.heap.size w w' := by
  have HA := Lib.hid hA
  have HK := Lib.hid hK
  clear hA hK
  go_enter Try.func59, Try.ntmps59
  have HW := Lib.hid ((Below.refl w.heap.size w).alloc (Nat.le_refl _) (.cells #[.bool s, .slice A n c] 31))
  go_wp2_with fail
  refine (heldIntS_at A n c k K HK.out _ (HA.out.below HW.out (Nat.le_refl _)) hn).mono ?_
  rintro e w1 ⟨rfl, hb⟩
  have HB1 := Lib.hid (HW.out.trans (hb.mono (by simp)))
  clear hb
  obtain ⟨q, hq⟩ : ∃ q : Int, ((k + n : Nat) : Int) = q := ⟨_, rfl⟩
  have HQ := Lib.hid hq
  have hk : (0 : Int) ≤ q := by omega
  have hk2 : ¬ q < 0 := by omega
  rw [hq]
  clear hq
  go_wp2
  go_ret
  exact ⟨by rw [HQ.out]; rfl, HB1.out⟩
end Go.Proofs.Ytdilbhkdkppodaa
