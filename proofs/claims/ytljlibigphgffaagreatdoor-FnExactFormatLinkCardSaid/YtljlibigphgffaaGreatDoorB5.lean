/- Joined: XRat1 XRat2 XRat3a XRat3b XRat3c. Conditions: none. -/
import Derived.Test.YtljlibigphgffaaGreatDoorProg
import Derived.Test.YtljlibigphgffaaGreatDoorB4
import Derived.Deep.DeepCutAuto
namespace Go.Proofs.YtljlibigphgffaaGreatDoor
open Go.RowKit Nt
set_option linter.unusedVariables false

set_option maxRecDepth 100000 in
set_option maxHeartbeats 4000000 in
theorem l04One_any (A : Option Addr) (n c : Nat) (ds : List Nat) (w : World) (hA : VRow w A n (nats ds)) (hn : n ≤ maxLen) :
    Calls Tryz.prog 24 #[.slice A n c] w fun e w' => e = .returned (.bool (isOne ds)) ∧ w' = w := by
  have hl : ds.length = n := by simpa [nats_len] using hA.1
  unfold maxLen at hn
  by_cases h1 : n = 1
  · subst h1
    obtain ⟨x, rfl⟩ := List.length_eq_one_iff.mp hl
    obtain ⟨g, o, rfl, hg, hc⟩ := hA.at_ (show 0 < 1 by omega)
    rw [nats_get] at hc
    simp at hc
    have HI := Lib.hid (show isOne [x] = decide (x = 1) by unfold isOne; simp)
    clear hl hA
    by_cases hx : x = 1
    · subst hx
      go_enter Tryz.func24, Tryz.ntmps24
      go_wp2
      go_ret
      exact ⟨by rw [HI.out]; rfl, rfl⟩
    · have hx2 : ¬ (x : Int) = 1 := by omega
      go_enter Tryz.func24, Tryz.ntmps24
      go_wp2
      go_ret
      exact ⟨by rw [HI.out]; simp [hx, hx2], rfl⟩
  · have HI := Lib.hid (show isOne ds = false by unfold isOne; simp; intro e; rw [e] at hl; simp at hl; omega)
    clear hl hA
    go_enter Tryz.func24, Tryz.ntmps24
    go_wp2
    go_ret
    exact ⟨by rw [HI.out]; simp <;> omega, rfl⟩
set_option maxRecDepth 100000 in
set_option maxHeartbeats 4000000 in
theorem isOneRow_any (A : Option Addr) (n c : Nat) (ds : List Nat) (w : World) (hA : VRow w A n (nats ds)) (hn : n ≤ maxLen) :
    Calls Tryz.prog 35 #[.slice A n c] w fun e w' => e = .returned (.bool (isOne ds)) ∧ w' = w := by
  have hl : ds.length = n := by simpa [nats_len] using hA.1
  unfold maxLen at hn
  by_cases h1 : n = 1
  · subst h1
    obtain ⟨x, rfl⟩ := List.length_eq_one_iff.mp hl
    obtain ⟨g, o, rfl, hg, hc⟩ := hA.at_ (show 0 < 1 by omega)
    rw [nats_get] at hc
    simp at hc
    have HI := Lib.hid (show isOne [x] = decide (x = 1) by unfold isOne; simp)
    clear hl hA
    by_cases hx : x = 1
    · subst hx
      go_enter Tryz.func35, Tryz.ntmps35
      go_wp2
      go_ret
      exact ⟨by rw [HI.out]; rfl, rfl⟩
    · have hx2 : ¬ (x : Int) = 1 := by omega
      go_enter Tryz.func35, Tryz.ntmps35
      go_wp2
      go_ret
      exact ⟨by rw [HI.out]; simp [hx, hx2], rfl⟩
  · have HI := Lib.hid (show isOne ds = false by unfold isOne; simp; intro e; rw [e] at hl; simp at hl; omega)
    clear hl hA
    go_enter Tryz.func35, Tryz.ntmps35
    go_wp2
    go_ret
    exact ⟨by rw [HI.out]; simp <;> omega, rfl⟩
set_option maxRecDepth 100000 in
set_option maxHeartbeats 4000000 in
theorem ratOk_spec (s : Bool) (A : Option Addr) (n c : Nat) (xs : List Int) (B : Option Addr) (m d : Nat) (ys : List Int) (w : World) (hA : Arg w A n c (ints xs)) (hB : Arg w B m d (ints ys)) :
    Calls Tryz.prog 23 #[.agg #[.bool s, .slice A n c, .slice B m d]] w fun e w' => e = .returned (.bool (okR s xs ys)) ∧ Below w.heap.size w w' := by
  have HA := Lib.hid hA
  have HB := Lib.hid hB
  clear hA hB
  have hn := HA.out.max
  have hm := HB.out.max
  unfold maxLen at hn hm
  have HLX := Lib.hid HA.out.ilen
  have HLY := Lib.hid HB.out.ilen
  go_enter Tryz.func23, Tryz.ntmps23
  have HB_0 := Lib.hid ((Below.refl w.heap.size w).alloc (Nat.le_refl _) (.cells #[.bool s, .slice A n c, .slice B m d] 33))
  have K_a_0 := Lib.hid (HeldL.new_at w (w.heap.size) [.bool s, .slice A n c, .slice B m d] 33 (by first | rfl | simp))
  go_wp2_with fail
  refine (bigIntOk_spec s A n c xs _ (HA.out.below HB_0.out (Nat.le_refl _)).1 HA.out.max).mono ?_
  rintro e w1 ⟨rfl, hb⟩
  have K_a_1 := Lib.hid (K_a_0.out.after hb)
  have HB_1 := Lib.hid (HB_0.out.trans (hb.mono HB_0.out.size))
  clear hb
  by_cases h1 : okB s xs = true
  · rw [h1]
    have hk_a_0_1 := K_a_1.out.cell 0 _ rfl
    have hk_a_1_1 := K_a_1.out.cell 1 _ rfl
    have hk_a_2_1 := K_a_1.out.cell 2 _ rfl
    go_wp2_with fail
    refine (natOk_spec B m d ys _ (HB.out.below HB_1.out (Nat.le_refl _)).1 HB.out.max).mono ?_
    rintro e w2 ⟨rfl, hb⟩
    have K_a_2 := Lib.hid (K_a_1.out.after hb)
    have HB_2 := Lib.hid (HB_1.out.trans (hb.mono HB_1.out.size))
    clear hb
    clear hk_a_0_1
    clear hk_a_1_1
    clear hk_a_2_1
    by_cases h2 : okI ys = true
    · rw [h2]
      by_cases h3 : m = 0 ∨ 24 < m ∨ 24 < n
      · have HO0 := Lib.hid (show okR s xs ys = false by unfold okR; rw [HLX.out, HLY.out]; simp; intros; omega)
        rcases h3 with h3 | h3 | h3
        · have hk_a_0_2 := K_a_2.out.cell 0 _ rfl
          have hk_a_1_2 := K_a_2.out.cell 1 _ rfl
          have hk_a_2_2 := K_a_2.out.cell 2 _ rfl
          subst h3
          go_wp2
          go_ret
          exact ⟨by rw [HO0.out]; rfl, HB_2.out⟩
        · have hk_a_0_2 := K_a_2.out.cell 0 _ rfl
          have hk_a_1_2 := K_a_2.out.cell 1 _ rfl
          have hk_a_2_2 := K_a_2.out.cell 2 _ rfl
          go_wp2
          go_ret
          exact ⟨by rw [HO0.out]; rfl, HB_2.out⟩
        · have hk_a_0_2 := K_a_2.out.cell 0 _ rfl
          have hk_a_1_2 := K_a_2.out.cell 1 _ rfl
          have hk_a_2_2 := K_a_2.out.cell 2 _ rfl
          by_cases h4 : m = 0
          · subst h4
            go_wp2
            go_ret
            exact ⟨by rw [HO0.out]; rfl, HB_2.out⟩
          · by_cases h5 : 24 < m
            · go_wp2
              go_ret
              exact ⟨by rw [HO0.out]; rfl, HB_2.out⟩
            · go_wp2
              go_ret
              exact ⟨by rw [HO0.out]; rfl, HB_2.out⟩
      · obtain ⟨hex, hcx, hlx⟩ := okI_nats (okB_ok h1)
        obtain ⟨hey, hcy, hly⟩ := okI_nats h2
        rw [toN_len, HA.out.ilen] at hlx
        rw [toN_len, HB.out.ilen] at hly
        have HAn := Lib.hid (hex ▸ HA.out)
        have HBn := Lib.hid (hey ▸ HB.out)
        have HCx := Lib.hid hcx
        have HCy := Lib.hid hcy
        have H1 := Lib.hid h1
        have H2 := Lib.hid h2
        clear hex hey hcx hcy h1 h2
        have hm0 : ¬ m = 0 := by omega
        have hm1 : ¬ 24 < m := by omega
        have hn1 : ¬ 24 < n := by omega
        have i0 : ((m : Int) == 0) = false := by simp; omega
        have i1 : decide ((24 : Int) < (m : Int)) = false := by simp; omega
        have i2 : decide ((24 : Int) < (n : Int)) = false := by simp; omega
        have hk_a_0_2 := K_a_2.out.cell 0 _ rfl
        have hk_a_1_2 := K_a_2.out.cell 1 _ rfl
        have hk_a_2_2 := K_a_2.out.cell 2 _ rfl
        go_wp2_with fail
        refine (l02Gcd_any A B n c m d (toN xs) (toN ys) _ (HAn.out.below HB_2.out (Nat.le_refl _)).1 (HBn.out.below HB_2.out (Nat.le_refl _)).1 HCx.out HCy.out HA.out.2.2.2 HB.out.2.2.2 (by omega) (by omega)).mono ?_
        rintro e w3 ⟨vg, rfl, ho, hb⟩
        obtain ⟨Ag, cg, rfl⟩ := ho.shape
        have HOg := Lib.hid ho
        clear ho
        have K_a_3 := Lib.hid (K_a_2.out.after hb)
        have HB_3 := Lib.hid (HB_2.out.trans (hb.mono HB_2.out.size))
        clear hb
        clear hk_a_0_2
        clear hk_a_1_2
        clear hk_a_2_2
        go_wp2_with fail
        refine (l04One_any Ag _ cg _ _ HOg.out.row (by have := HOg.out.arg.max; exact this)).mono ?_
        rintro e w4 ⟨rfl, rfl⟩
        rw [isOne_dig]
        have HO1 := Lib.hid (show okR s xs ys = decide (Nat.gcd (val (toN xs)) (val (toN ys)) = 1) by unfold okR; rw [H1.out, H2.out]; have e1 := HA.out.ilen; have e2 := HB.out.ilen; simp; intro _; omega)
        obtain ⟨z, hz⟩ : ∃ z, decide (Nat.gcd (val (toN xs)) (val (toN ys)) = 1) = z := ⟨_, rfl⟩
        rw [hz] at HO1 ⊢
        clear hz
        go_wp2
        go_ret
        exact ⟨by rw [HO1.out]; rfl, HB_3.out⟩
    · rw [Bool.not_eq_true] at h2
      rw [h2]
      have HO0 := Lib.hid (show okR s xs ys = false by unfold okR; simp [h2])
      have hk_a_0_2 := K_a_2.out.cell 0 _ rfl
      have hk_a_1_2 := K_a_2.out.cell 1 _ rfl
      have hk_a_2_2 := K_a_2.out.cell 2 _ rfl
      go_wp2
      go_ret
      exact ⟨by rw [HO0.out]; rfl, HB_2.out⟩
  · rw [Bool.not_eq_true] at h1
    rw [h1]
    have HO0 := Lib.hid (show okR s xs ys = false by unfold okR; simp [h1])
    have hk_a_0_1 := K_a_1.out.cell 0 _ rfl
    have hk_a_1_1 := K_a_1.out.cell 1 _ rfl
    have hk_a_2_1 := K_a_1.out.cell 2 _ rfl
    go_wp2
    go_ret
    exact ⟨by rw [HO0.out]; rfl, HB_1.out⟩
set_option maxRecDepth 100000 in
set_option maxHeartbeats 4000000 in
theorem isValidR_any (s : Bool) (A : Option Addr) (n c : Nat) (xs : List Int) (B : Option Addr) (m d : Nat) (ys : List Int) (w : World) (hA : Arg w A n c (ints xs)) (hB : Arg w B m d (ints ys)) :
    Calls Tryz.prog 34 #[.agg #[.bool s, .slice A n c, .slice B m d]] w fun e w' => e = .returned (.bool (okR s xs ys)) ∧ Below w.heap.size w w' := by
  have HA := Lib.hid hA
  have HB := Lib.hid hB
  clear hA hB
  have hn := HA.out.max
  have hm := HB.out.max
  unfold maxLen at hn hm
  have HLX := Lib.hid HA.out.ilen
  have HLY := Lib.hid HB.out.ilen
  go_enter Tryz.func34, Tryz.ntmps34
  have HB_0 := Lib.hid ((Below.refl w.heap.size w).alloc (Nat.le_refl _) (.cells #[.bool s, .slice A n c, .slice B m d] 33))
  have K_a_0 := Lib.hid (HeldL.new_at w (w.heap.size) [.bool s, .slice A n c, .slice B m d] 33 (by first | rfl | simp))
  by_cases h3 : 24 < n ∨ 24 < m
  · have HO0 := Lib.hid (show okR s xs ys = false by unfold okR; rw [HLX.out, HLY.out]; simp; intros; omega)
    by_cases h4 : 24 < n
    · go_wp2
      go_ret
      exact ⟨by rw [HO0.out]; rfl, HB_0.out⟩
    · go_wp2
      go_ret
      exact ⟨by rw [HO0.out]; rfl, HB_0.out⟩
  · have hm1 : ¬ 24 < m := by omega
    have hn1 : ¬ 24 < n := by omega
    go_wp2_with fail
    refine (bigIntOk_impl s A n c xs _ (HA.out.below HB_0.out (Nat.le_refl _)).1 HA.out.max).mono ?_
    rintro e w1 ⟨rfl, hb⟩
    have K_a_1 := Lib.hid (K_a_0.out.after hb)
    have HB_1 := Lib.hid (HB_0.out.trans (hb.mono HB_0.out.size))
    clear hb
    by_cases h1 : okB s xs = true
    · rw [h1]
      have hk_a_0_1 := K_a_1.out.cell 0 _ rfl
      have hk_a_1_1 := K_a_1.out.cell 1 _ rfl
      have hk_a_2_1 := K_a_1.out.cell 2 _ rfl
      go_wp2_with fail
      refine (natOk_impl B m d ys _ (HB.out.below HB_1.out (Nat.le_refl _)).1 HB.out.max).mono ?_
      rintro e w2 ⟨rfl, hb⟩
      have K_a_2 := Lib.hid (K_a_1.out.after hb)
      have HB_2 := Lib.hid (HB_1.out.trans (hb.mono HB_1.out.size))
      clear hb
      clear hk_a_0_1
      clear hk_a_1_1
      clear hk_a_2_1
      by_cases h2 : okI ys = true
      · rw [h2]
        by_cases h3 : m = 0
        · subst h3
          have HO0 := Lib.hid (show okR s xs ys = false by unfold okR; rw [HLX.out, HLY.out]; simp)
          have hk_a_0_2 := K_a_2.out.cell 0 _ rfl
          have hk_a_1_2 := K_a_2.out.cell 1 _ rfl
          have hk_a_2_2 := K_a_2.out.cell 2 _ rfl
          go_wp2
          go_ret
          exact ⟨by rw [HO0.out]; rfl, HB_2.out⟩
        · obtain ⟨hex, hcx, hlx⟩ := okI_nats (okB_ok h1)
          obtain ⟨hey, hcy, hly⟩ := okI_nats h2
          rw [toN_len, HA.out.ilen] at hlx
          rw [toN_len, HB.out.ilen] at hly
          have HAn := Lib.hid (hex ▸ HA.out)
          have HBn := Lib.hid (hey ▸ HB.out)
          have HCx := Lib.hid hcx
          have HCy := Lib.hid hcy
          have H1 := Lib.hid h1
          have H2 := Lib.hid h2
          clear hex hey hcx hcy h1 h2
          have hm0 : 0 < m := by omega
          have HG := Lib.hid (gcdN_yes (okB_ok H1.out) H2.out)
          have hk_a_0_2 := K_a_2.out.cell 0 _ rfl
          have hk_a_1_2 := K_a_2.out.cell 1 _ rfl
          have hk_a_2_2 := K_a_2.out.cell 2 _ rfl
          go_wp2_with fail
          refine (natGcd_impl A B n c m d xs ys _ (HA.out.below HB_2.out (Nat.le_refl _)).1 (HB.out.below HB_2.out (Nat.le_refl _)).1 HA.out.max HB.out.max).mono ?_
          rintro e w3 ⟨vg, rfl, ho, hb⟩
          obtain ⟨Ag, cg, rfl⟩ := ho.shape
          have HOg := Lib.hid ho
          clear ho
          have K_a_3 := Lib.hid (K_a_2.out.after hb)
          have HB_3 := Lib.hid (HB_2.out.trans (hb.mono HB_2.out.size))
          clear hb
          clear hk_a_0_2
          clear hk_a_1_2
          clear hk_a_2_2
          go_wp2_with fail
          refine (isOneRow_any Ag _ cg _ _ HOg.out.row (by have := HOg.out.arg.max; exact this)).mono ?_
          rintro e w4 ⟨rfl, rfl⟩
          rw [HG.out, isOne_dig]
          have HO1 := Lib.hid (show okR s xs ys = decide (Nat.gcd (val (toN xs)) (val (toN ys)) = 1) by unfold okR; rw [H1.out, H2.out]; have e1 := HA.out.ilen; have e2 := HB.out.ilen; simp; intro _; omega)
          obtain ⟨z, hz⟩ : ∃ z, decide (Nat.gcd (val (toN xs)) (val (toN ys)) = 1) = z := ⟨_, rfl⟩
          rw [hz] at HO1 ⊢
          clear hz
          go_wp2
          go_ret
          exact ⟨by rw [HO1.out]; rfl, HB_3.out⟩
      · rw [Bool.not_eq_true] at h2
        rw [h2]
        have HO0 := Lib.hid (show okR s xs ys = false by unfold okR; simp [h2])
        have hk_a_0_2 := K_a_2.out.cell 0 _ rfl
        have hk_a_1_2 := K_a_2.out.cell 1 _ rfl
        have hk_a_2_2 := K_a_2.out.cell 2 _ rfl
        go_wp2
        go_ret
        exact ⟨by rw [HO0.out]; rfl, HB_2.out⟩
    · rw [Bool.not_eq_true] at h1
      rw [h1]
      have HO0 := Lib.hid (show okR s xs ys = false by unfold okR; simp [h1])
      have hk_a_0_1 := K_a_1.out.cell 0 _ rfl
      have hk_a_1_1 := K_a_1.out.cell 1 _ rfl
      have hk_a_2_1 := K_a_1.out.cell 2 _ rfl
      go_wp2
      go_ret
      exact ⟨by rw [HO0.out]; rfl, HB_1.out⟩
/-- A fraction as it lies. -/
structure Rl where
  s : Bool
  A : Option Addr
  n : Nat
  c : Nat
  xs : List Int
  B : Option Addr
  m : Nat
  d : Nat
  ys : List Int
def Rl.cells (r : Rl) : List Value := [.bool r.s, .slice r.A r.n r.c, .slice r.B r.m r.d]
def Rl.ok (r : Rl) : Bool := okR r.s r.xs r.ys
def Rl.arg (w : World) (r : Rl) : Prop := Arg w r.A r.n r.c (ints r.xs) ∧ Arg w r.B r.m r.d (ints r.ys)
/-- A slice of fractions. -/
structure RlRow (w : World) (A : Option Addr) (n : Nat) (L : List Rl) : Prop where
  len : L.length = n
  cell : 0 < n → ∃ g o, A = some ⟨g, o, none⟩ ∧ g < w.heap.size ∧ ∀ k (hk : k < L.length) (j : Nat) (v : Value), (L[k].cells)[j]? = some v → w.cell? ⟨g, o + k * 3 + j, none⟩ = some v
  arg : ∀ r ∈ L, r.arg w
theorem Rl.arg.below {w w' : World} {r : Rl} (h : r.arg w) (hb : Below w.heap.size w w') : r.arg w' := ⟨h.1.below hb (Nat.le_refl _), h.2.below hb (Nat.le_refl _)⟩
theorem RlRow.below {w w' : World} {A : Option Addr} {n : Nat} {L : List Rl} (h : RlRow w A n L) (hb : Below w.heap.size w w') : RlRow w' A n L := by
  refine ⟨h.len, fun hn => ?_, fun z hz => (h.arg z hz).below hb⟩
  obtain ⟨g, o, rfl, hg, hc⟩ := h.cell hn
  exact ⟨g, o, rfl, Nat.lt_of_lt_of_le hg hb.size, fun k hk j v hj => (hb.cell (p := ⟨g, o + k * 3 + j, none⟩) hg).trans (hc k hk j v hj)⟩
theorem RlRow.at_ {w : World} {A : Option Addr} {n : Nat} {L : List Rl} (h : RlRow w A n L) {k : Nat} (hk : k < n) : ∃ g o z, A = some ⟨g, o, none⟩ ∧ g < w.heap.size ∧ L[k]? = some z ∧ z.arg w ∧ ∀ (j : Nat) (v : Value), (z.cells)[j]? = some v → w.cell? ⟨g, o + k * 3 + j, none⟩ = some v := by
  obtain ⟨g, o, e, hg, hc⟩ := h.cell (by omega)
  have hk' : k < L.length := by rw [h.len]; exact hk
  exact ⟨g, o, L[k], e, hg, List.getElem?_eq_getElem hk', h.arg _ (List.getElem_mem hk'), hc k hk'⟩
theorem RlRow.two {u : World} {T : TypeId} (r t : Rl) (hr : r.arg u) (ht : t.arg u) : RlRow (u.alloc (.cells (r.cells ++ t.cells).toArray T)) (some ⟨u.heap.size, 0, none⟩) 2 [r, t] := by
  have hb : Below u.heap.size u (u.alloc (.cells (r.cells ++ t.cells).toArray T)) := (Below.refl _ _).alloc (Nat.le_refl _) _
  have hh := HeldL.new u (r.cells ++ t.cells) T
  refine ⟨rfl, fun _ => ⟨u.heap.size, 0, rfl, hh.lt, ?_⟩, ?_⟩
  · intro k hk j v hj
    match k, hk with
    | 0, _ =>
      have hj3 : j < 3 := by have := (List.getElem?_eq_some_iff.mp hj).1; simpa [Rl.cells] using this
      refine hh.cell _ _ ?_
      rw [Nat.zero_mul, Nat.zero_add, List.getElem?_append_left (by simpa [Rl.cells] using hj3)]; exact hj
    | 1, _ =>
      refine hh.cell _ _ ?_
      rw [List.getElem?_append_right (by simp [Rl.cells] <;> omega)]
      rw [show 0 + 1 * 3 + j - r.cells.length = j by simp [Rl.cells]]; exact hj
  · intro z hz
    simp only [List.mem_cons, List.not_mem_nil, or_false] at hz
    rcases hz with rfl | rfl
    · exact hr.below hb
    · exact ht.below hb
theorem rl_all {L : List Rl} : L.all Rl.ok = true ↔ ∀ i z, i < L.length → L[i]? = some z → z.ok = true := by
  rw [List.all_eq_true]
  constructor
  · intro h i z _ hz; exact h z (List.mem_of_getElem? hz)
  · intro h z hz
    obtain ⟨i, hi⟩ := List.mem_iff_getElem?.mp hz
    exact h i z (List.getElem?_eq_some_iff.mp hi).1 hi
theorem rl_bad {L : List Rl} {k : Nat} {z : Rl} (h : L[k]? = some z) (hz : z.ok = false) : L.all Rl.ok = false := by
  rw [← Bool.not_eq_true, rl_all]
  intro h1
  have := h1 k z (List.getElem?_eq_some_iff.mp h).1 h
  rw [hz] at this; exact absurd this (by decide)
theorem rl_step {L : List Rl} {k : Nat} {z : Rl} (h : ∀ i z, i < k → L[i]? = some z → z.ok = true) (h1 : L[k]? = some z) (hl : z.ok = true) : ∀ i z, i < k + 1 → L[i]? = some z → z.ok = true := by
  intro i a hi ha
  by_cases e : i = k
  · subst e
    obtain rfl := Option.some.inj (h1.symm.trans ha)
    exact hl
  · exact h i a (by omega) ha
set_option maxRecDepth 100000 in
set_option maxHeartbeats 4000000 in
theorem areValid_l (A : Option Addr) (n c : Nat) (L : List Rl) (w : World) (hA : RlRow w A n L) (hn : n ≤ 1048576) :
    Calls Tryz.prog 31 #[.slice A n c] w fun e w' => e = .returned (.bool (L.all Rl.ok)) ∧ Below w.heap.size w w' := by
  have HA := Lib.hid hA
  have HL := Lib.hid hA.len
  obtain ⟨ok, hok⟩ : ∃ z, L.all Rl.ok = z := ⟨_, rfl⟩
  rw [hok]
  have HOK := Lib.hid hok
  clear hA hok
  go_enter Tryz.func31, Tryz.ntmps31
  go_wp2
  go_loopw [7] (fun i wr => ∃ k : Nat, k ≤ n ∧ i = .int .i64 k ∧ (∀ i z, i < k → L[i]? = some z → z.ok = true) ∧ Below w.heap.size w wr) (fun i _ => n - (intOf i).toNat)
  case atStart => exact ⟨0, Nat.zero_le _, rfl, fun i z hi => by omega, Below.refl _ _⟩
  case round =>
    obtain ⟨k, hk, rfl, hv, hb⟩ := hrel
    have HV := Lib.hid hv
    have HB := Lib.hid hb
    clear hv hb
    by_cases hlt : k < n
    · obtain ⟨g, o, z, rfl, hg, hz, hr, hc⟩ := (HA.out.below HB.out).at_ hlt
      obtain ⟨s, a0, n0, c0, xs, a1, n1, c1, ys⟩ := z
      have HZ := Lib.hid hz
      have HR := Lib.hid hr
      have d0 : wr.cell? ⟨g, o + k * 3, none⟩ = some (.bool s) := hc 0 _ rfl
      have d1 : wr.cell? ⟨g, o + k * 3 + 1, none⟩ = some (.slice a0 n0 c0) := hc 1 _ rfl
      have d2 : wr.cell? ⟨g, o + k * 3 + 2, none⟩ = some (.slice a1 n1 c1) := hc 2 _ rfl
      clear hz hr hc
      go_wp2_with fail
      have HB1 := Lib.hid (HB.out.alloc HB.out.size (.cells #[.bool s, .slice a0 n0 c0, .slice a1 n1 c1] 33))
      refine (isValidR_any s a0 n0 c0 xs a1 n1 c1 ys _ (HR.out.1.below ((Below.refl _ _).alloc (Nat.le_refl _) _) (Nat.le_refl _)) (HR.out.2.below ((Below.refl _ _).alloc (Nat.le_refl _) _) (Nat.le_refl _))).mono ?_
      rintro e w1 ⟨rfl, hb⟩
      have HB2 := Lib.hid (HB1.out.trans (hb.mono HB1.out.size))
      clear hb HB1 d0 d1 d2
      by_cases hz : okR s xs ys = true
      · rw [hz]
        have HV2 := Lib.hid (rl_step HV.out HZ.out hz)
        clear hz
        go_wp2
        exact ⟨⟨k + 1, by omega, by go_num, HV2.out, HB2.out⟩, by simp [intOf]; omega⟩
      · rw [Bool.not_eq_true] at hz
        rw [hz]
        have HE := Lib.hid (show false = ok by rw [← HOK.out]; exact (rl_bad HZ.out hz).symm)
        clear hz
        go_wp2
        go_ret
        exact ⟨congrArg (fun z => Ending.returned (.bool z)) HE.out, HB2.out⟩
    · obtain rfl : k = n := by omega
      have HE := Lib.hid (show true = ok by rw [← HOK.out]; exact (rl_all.mpr (by rw [HL.out]; exact HV.out)).symm)
      go_wp2
      go_ret
      exact ⟨congrArg (fun z => Ending.returned (.bool z)) HE.out, HB.out⟩
/-- Two fractions in an array that was made for the call. -/
theorem areValid_any (s : Bool) (A : Option Addr) (n c : Nat) (xs : List Int) (B : Option Addr) (m d : Nat) (ys : List Int) (t : Bool) (C : Option Addr) (p q : Nat) (us : List Int) (E : Option Addr) (k l : Nat) (vs : List Int) (u : World) {T : TypeId} {b : Nat} (hA : Arg u A n c (ints xs)) (hB : Arg u B m d (ints ys)) (hC : Arg u C p q (ints us)) (hE : Arg u E k l (ints vs)) (hbk : u.heap.size = b := by first | rfl | simp) :
    Calls Tryz.prog 31 #[.slice (some ⟨b, 0, none⟩) 2 2] (u.alloc (.cells #[.bool s, .slice A n c, .slice B m d, .bool t, .slice C p q, .slice E k l] T)) fun e w' => e = .returned (.bool (okR s xs ys && okR t us vs)) ∧ Below u.heap.size u w' := by
  subst hbk
  have h2 := areValid_l (some ⟨u.heap.size, 0, none⟩) 2 2 [⟨s, A, n, c, xs, B, m, d, ys⟩, ⟨t, C, p, q, us, E, k, l, vs⟩] _ (RlRow.two (T := T) ⟨s, A, n, c, xs, B, m, d, ys⟩ ⟨t, C, p, q, us, E, k, l, vs⟩ ⟨hA, hB⟩ ⟨hC, hE⟩) (by omega)
  have hb : Below u.heap.size u (u.alloc (.cells #[.bool s, .slice A n c, .slice B m d, .bool t, .slice C p q, .slice E k l] T)) := (Below.refl _ _).alloc (Nat.le_refl _) _
  refine h2.mono ?_
  rintro e w' ⟨rfl, hb2⟩
  exact ⟨by simp [Rl.ok], hb.trans (hb2.mono hb.size)⟩
end Go.Proofs.YtljlibigphgffaaGreatDoor
namespace Go.Proofs.YtljlibigphgffaaGreatDoor
open Go.RowKit Nt
set_option linter.unusedVariables false

end Go.Proofs.YtljlibigphgffaaGreatDoor
namespace Go.Proofs.YtljlibigphgffaaGreatDoor
open Go.RowKit Nt
set_option linter.unusedVariables false

end Go.Proofs.YtljlibigphgffaaGreatDoor
namespace Go.Proofs.YtljlibigphgffaaGreatDoor
open Go.RowKit Nt
set_option linter.unusedVariables false

theorem cmp_small {a b : Int} (ha : a.natAbs < 1000000000 ^ 60) (hb : b.natAbs < 1000000000 ^ 60) : cmpS (sgZ a) (sgZ b) (val (magZ a)) (val (magZ b)) = cmpZ a b := by
  rw [sgZ_small ha, sgZ_small hb, magZ_small ha, magZ_small hb, val_dig, val_dig]
  exact cmpS_cmpZ
/-- What RatCmp answers. -/
def cmpR (s : Bool) (xs ys : List Int) (t : Bool) (us vs : List Int) : Int := if okR s xs ys = true ∧ okR t us vs = true then cmpZ (zOf s xs * (val (toN vs) : Int)) (zOf t us * (val (toN ys) : Int)) else 0
theorem cmpR_yes {s : Bool} {xs ys : List Int} {t : Bool} {us vs : List Int} (h1 : okR s xs ys = true) (h2 : okR t us vs = true) : cmpR s xs ys t us vs = cmpZ (zOf s xs * (val (toN vs) : Int)) (zOf t us * (val (toN ys) : Int)) := if_pos ⟨h1, h2⟩
theorem cmpR_no {s : Bool} {xs ys : List Int} {t : Bool} {us vs : List Int} (h : okR s xs ys = false ∨ okR t us vs = false) : cmpR s xs ys t us vs = 0 := if_neg (by rintro ⟨h1, h2⟩; rcases h with h | h <;> simp_all)
/-- What RatSign answers. -/
def sgnR (s : Bool) (xs ys : List Int) : Int := if okR s xs ys = true then cmpZ (zOf s xs) 0 else 0
theorem cmpZ_range (a b : Int) : -1 ≤ cmpZ a b ∧ cmpZ a b ≤ 1 := by unfold cmpZ; (repeat' split) <;> omega
end Go.Proofs.YtljlibigphgffaaGreatDoor
namespace Go.Proofs.YtljlibigphgffaaGreatDoor
open Go.RowKit Nt
set_option linter.unusedVariables false

theorem sgnR_nil {s : Bool} {xs ys : List Int} (h : xs.length = 0) : sgnR s xs ys = 0 := by
  unfold sgnR
  rw [zOf, List.eq_nil_of_length_eq_zero h]
  have e : signed s (val (toN [])) = 0 := by cases s <;> rfl
  rw [e]
  split <;> rfl
theorem zOf_pos {xs ys : List Int} {s : Bool} (h : okR s xs ys = true) (hl : 0 < xs.length) : 0 < val (toN xs) := val_pos (okI_nats (okB_ok (okR_parts h).1)).2.1 (by rw [toN_len]; exact hl)
theorem sgnR_true {xs ys : List Int} (h : okR true xs ys = true) (hl : 0 < xs.length) : sgnR true xs ys = -1 := by
  have h1 := zOf_pos h hl
  have h2 : zOf true xs < 0 := by simp [zOf, signed]; omega
  unfold sgnR cmpZ
  rw [if_pos h, if_pos h2]
theorem sgnR_false {xs ys : List Int} (h : okR false xs ys = true) (hl : 0 < xs.length) : sgnR false xs ys = 1 := by
  have h1 := zOf_pos h hl
  have h2 : 0 < zOf false xs := by simp [zOf, signed]; omega
  unfold sgnR cmpZ
  rw [if_pos h, if_neg (by omega), if_neg (by omega)]
theorem sgnR_no {s : Bool} {xs ys : List Int} (h : okR s xs ys = false) : sgnR s xs ys = 0 := by unfold sgnR; rw [h]; rfl
set_option maxRecDepth 100000 in
set_option maxHeartbeats 4000000 in
theorem ratSign_spec (s : Bool) (A : Option Addr) (n c : Nat) (xs : List Int) (B : Option Addr) (m d : Nat) (ys : List Int) (w : World) (hA : Arg w A n c (ints xs)) (hB : Arg w B m d (ints ys)) :
    Calls Tryz.prog 22 #[.agg #[.bool s, .slice A n c, .slice B m d]] w fun e w' => e = .returned (.int .i64 (sgnR s xs ys)) ∧ Below w.heap.size w w' := by
  obtain ⟨Q, hQ⟩ : ∃ y9, sgnR s xs ys = y9 := ⟨_, rfl⟩
  rw [hQ]
  have HL := Lib.hid hA.ilen
  have hn := hA.max
  unfold maxLen at hn
  have HQ := Lib.hid hQ
  have HA := Lib.hid hA
  have HB := Lib.hid hB
  clear hQ hA hB
  go_enter Tryz.func22, Tryz.ntmps22
  have HB_0 := Lib.hid ((Below.refl w.heap.size w).alloc (Nat.le_refl _) (.cells #[.bool s, .slice A n c, .slice B m d] 33))
  have K_a_0 := Lib.hid (HeldL.new_at w (w.heap.size) [.bool s, .slice A n c, .slice B m d] 33 (by first | rfl | simp))
  go_wp2_with fail
  refine (ratOk_spec s A n c xs B m d ys _ (HA.out.below HB_0.out (Nat.le_refl _)) (HB.out.below HB_0.out (Nat.le_refl _))).mono ?_
  rintro e w1 ⟨rfl, hb⟩
  have K_a_1 := Lib.hid (K_a_0.out.after hb)
  have HB_1 := Lib.hid (HB_0.out.trans (hb.mono HB_0.out.size))
  clear hb
  by_cases hok : okR s xs ys = true
  · rw [hok]
    have HOK := Lib.hid hok
    clear hok
    by_cases h0 : n = 0
    · subst h0
      obtain rfl : Q = 0 := by rw [← HQ.out]; exact sgnR_nil HL.out
      have hk_a_0_1 := K_a_1.out.cell 0 _ rfl
      have hk_a_1_1 := K_a_1.out.cell 1 _ rfl
      have hk_a_2_1 := K_a_1.out.cell 2 _ rfl
      go_wp2
      go_ret
      exact ⟨rfl, HB_1.out⟩
    · have h1 : ¬ (n : Int) = 0 := by omega
      cases s
      · obtain rfl : Q = 1 := by rw [← HQ.out]; exact sgnR_false HOK.out (by rw [HL.out]; omega)
        have hk_a_0_1 := K_a_1.out.cell 0 _ rfl
        have hk_a_1_1 := K_a_1.out.cell 1 _ rfl
        have hk_a_2_1 := K_a_1.out.cell 2 _ rfl
        go_wp2
        go_ret
        exact ⟨rfl, HB_1.out⟩
      · obtain rfl : Q = -1 := by rw [← HQ.out]; exact sgnR_true HOK.out (by rw [HL.out]; omega)
        have hk_a_0_1 := K_a_1.out.cell 0 _ rfl
        have hk_a_1_1 := K_a_1.out.cell 1 _ rfl
        have hk_a_2_1 := K_a_1.out.cell 2 _ rfl
        go_wp2
        go_ret
        exact ⟨rfl, HB_1.out⟩
  · rw [Bool.not_eq_true] at hok
    rw [hok]
    obtain rfl : Q = 0 := by rw [← HQ.out]; exact sgnR_no hok
    clear hok
    have hk_a_0_1 := K_a_1.out.cell 0 _ rfl
    have hk_a_1_1 := K_a_1.out.cell 1 _ rfl
    have hk_a_2_1 := K_a_1.out.cell 2 _ rfl
    go_wp2
    go_ret
    exact ⟨rfl, HB_1.out⟩
end Go.Proofs.YtljlibigphgffaaGreatDoor
