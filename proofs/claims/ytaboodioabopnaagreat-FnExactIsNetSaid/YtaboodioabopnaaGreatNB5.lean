/- Joined: XRat1 XRat2 XRat3a XRat3b XRat3c. Conditions: none. -/
import Derived.Test.YtaboodioabopnaaGreatProg
import Derived.Test.YtaboodioabopnaaGreatNB4
import Derived.Deep.DeepCutAuto
namespace Go.Proofs.YtaboodioabopnaaGreat
open Go.RowKit Nt
set_option linter.unusedVariables false
set_option maxRecDepth 100000 in
set_option maxHeartbeats 4000000 in
theorem l04One_any (A : Option Addr) (n c : Nat) (ds : List Nat) (w : World) (hA : VRow w A n (nats ds)) (hn : n ≤ maxLen) :
   Calls Tryz.prog 72 #[.slice A n c] w fun e w' => e = .returned (.bool (isOne ds)) ∧ w' = w := by
 have hl : ds.length = n := by simpa [nats_len] using hA.1
 unfold maxLen at hn
 by_cases h1 : n = 1
 · subst h1
   obtain ⟨x, rfl⟩ := List.length_eq_one_iff.mp hl
   obtain ⟨g, o, rfl, hg, hc⟩ := hA.at_ (show 0 < 1 by omega)
   rw [nats_get] at hc
   simp at hc
   have HI := Lib.hid (show isOne [x] = decide (x = 1) by unfold isOne; simp)
   clear hl hA
   by_cases hx : x = 1
   · subst hx
     go_enter Tryz.func72, Tryz.ntmps72
     go_wp2
     go_ret
     exact ⟨by rw [HI.out]; rfl, rfl⟩
   · have hx2 : ¬ (x : Int) = 1 := by omega
     go_enter Tryz.func72, Tryz.ntmps72
     go_wp2
     go_ret
     exact ⟨by rw [HI.out]; simp [hx, hx2], rfl⟩
 · have HI := Lib.hid (show isOne ds = false by unfold isOne; simp; intro e; rw [e] at hl; simp at hl; omega)
   clear hl hA
   go_enter Tryz.func72, Tryz.ntmps72
   go_wp2
   go_ret
   exact ⟨by rw [HI.out]; simp <;> omega, rfl⟩
set_option maxRecDepth 100000 in
set_option maxHeartbeats 4000000 in
theorem isOneRow_any (A : Option Addr) (n c : Nat) (ds : List Nat) (w : World) (hA : VRow w A n (nats ds)) (hn : n ≤ maxLen) :
   Calls Tryz.prog 86 #[.slice A n c] w fun e w' => e = .returned (.bool (isOne ds)) ∧ w' = w := by
 have hl : ds.length = n := by simpa [nats_len] using hA.1
 unfold maxLen at hn
 by_cases h1 : n = 1
 · subst h1
   obtain ⟨x, rfl⟩ := List.length_eq_one_iff.mp hl
   obtain ⟨g, o, rfl, hg, hc⟩ := hA.at_ (show 0 < 1 by omega)
   rw [nats_get] at hc
   simp at hc
   have HI := Lib.hid (show isOne [x] = decide (x = 1) by unfold isOne; simp)
   clear hl hA
   by_cases hx : x = 1
   · subst hx
     go_enter Tryz.func86, Tryz.ntmps86
     go_wp2
     go_ret
     exact ⟨by rw [HI.out]; rfl, rfl⟩
   · have hx2 : ¬ (x : Int) = 1 := by omega
     go_enter Tryz.func86, Tryz.ntmps86
     go_wp2
     go_ret
     exact ⟨by rw [HI.out]; simp [hx, hx2], rfl⟩
 · have HI := Lib.hid (show isOne ds = false by unfold isOne; simp; intro e; rw [e] at hl; simp at hl; omega)
   clear hl hA
   go_enter Tryz.func86, Tryz.ntmps86
   go_wp2
   go_ret
   exact ⟨by rw [HI.out]; simp <;> omega, rfl⟩
set_option maxRecDepth 100000 in
set_option maxHeartbeats 4000000 in
theorem ratOk_spec (s : Bool) (A : Option Addr) (n c : Nat) (xs : List Int) (B : Option Addr) (m d : Nat) (ys : List Int) (w : World) (hA : Arg w A n c (ints xs)) (hB : Arg w B m d (ints ys)) :
   Calls Tryz.prog 35 #[.agg #[.bool s, .slice A n c, .slice B m d]] w fun e w' => e = .returned (.bool (okR s xs ys)) ∧ Below w.heap.size w w' := by
 have HA := Lib.hid hA
 have HB := Lib.hid hB
 clear hA hB
 have hn := HA.out.max
 have hm := HB.out.max
 unfold maxLen at hn hm
 have HLX := Lib.hid HA.out.ilen
 have HLY := Lib.hid HB.out.ilen
 go_enter Tryz.func35, Tryz.ntmps35
 have HB_0 := Lib.hid ((Below.refl w.heap.size w).alloc (Nat.le_refl _) (.cells #[.bool s, .slice A n c, .slice B m d] 37))
 have K_a_0 := Lib.hid (HeldL.new_at w (w.heap.size) [.bool s, .slice A n c, .slice B m d] 37 (by first | rfl | simp))
 go_wp2_with fail
 refine (bigIntOk_spec s A n c xs _ (HA.out.below HB_0.out (Nat.le_refl _)).1 HA.out.max).mono ?_
 rintro e w1 ⟨rfl, hb⟩
 have K_a_1 := Lib.hid (K_a_0.out.after hb)
 have HB_1 := Lib.hid (HB_0.out.trans (hb.mono HB_0.out.size))
 clear hb
 by_cases h1 : okB s xs = true
 · rw [h1]
   have hk_a_0_1 := K_a_1.out.cell 0 _ rfl
   have hk_a_1_1 := K_a_1.out.cell 1 _ rfl
   have hk_a_2_1 := K_a_1.out.cell 2 _ rfl
   go_wp2_with fail
   refine (natOk_spec B m d ys _ (HB.out.below HB_1.out (Nat.le_refl _)).1 HB.out.max).mono ?_
   rintro e w2 ⟨rfl, hb⟩
   have K_a_2 := Lib.hid (K_a_1.out.after hb)
   have HB_2 := Lib.hid (HB_1.out.trans (hb.mono HB_1.out.size))
   clear hb
   clear hk_a_0_1
   clear hk_a_1_1
   clear hk_a_2_1
   by_cases h2 : okI ys = true
   · rw [h2]
     by_cases h3 : m = 0 ∨ 24 < m ∨ 24 < n
     · have HO0 := Lib.hid (show okR s xs ys = false by unfold okR; rw [HLX.out, HLY.out]; simp; intros; omega)
       rcases h3 with h3 | h3 | h3
       · have hk_a_0_2 := K_a_2.out.cell 0 _ rfl
         have hk_a_1_2 := K_a_2.out.cell 1 _ rfl
         have hk_a_2_2 := K_a_2.out.cell 2 _ rfl
         subst h3
         go_wp2
         go_ret
         exact ⟨by rw [HO0.out]; rfl, HB_2.out⟩
       · have hk_a_0_2 := K_a_2.out.cell 0 _ rfl
         have hk_a_1_2 := K_a_2.out.cell 1 _ rfl
         have hk_a_2_2 := K_a_2.out.cell 2 _ rfl
         go_wp2
         go_ret
         exact ⟨by rw [HO0.out]; rfl, HB_2.out⟩
       · have hk_a_0_2 := K_a_2.out.cell 0 _ rfl
         have hk_a_1_2 := K_a_2.out.cell 1 _ rfl
         have hk_a_2_2 := K_a_2.out.cell 2 _ rfl
         by_cases h4 : m = 0
         · subst h4
           go_wp2
           go_ret
           exact ⟨by rw [HO0.out]; rfl, HB_2.out⟩
         · by_cases h5 : 24 < m
           · go_wp2
             go_ret
             exact ⟨by rw [HO0.out]; rfl, HB_2.out⟩
           · go_wp2
             go_ret
             exact ⟨by rw [HO0.out]; rfl, HB_2.out⟩
     · obtain ⟨hex, hcx, hlx⟩ := okI_nats (okB_ok h1)
       obtain ⟨hey, hcy, hly⟩ := okI_nats h2
       rw [toN_len, HA.out.ilen] at hlx
       rw [toN_len, HB.out.ilen] at hly
       have HAn := Lib.hid (hex ▸ HA.out)
       have HBn := Lib.hid (hey ▸ HB.out)
       have HCx := Lib.hid hcx
       have HCy := Lib.hid hcy
       have H1 := Lib.hid h1
       have H2 := Lib.hid h2
       clear hex hey hcx hcy h1 h2
       have hm0 : ¬ m = 0 := by omega
       have hm1 : ¬ 24 < m := by omega
       have hn1 : ¬ 24 < n := by omega
       have i0 : ((m : Int) == 0) = false := by simp; omega
       have i1 : decide ((24 : Int) < (m : Int)) = false := by simp; omega
       have i2 : decide ((24 : Int) < (n : Int)) = false := by simp; omega
       have hk_a_0_2 := K_a_2.out.cell 0 _ rfl
       have hk_a_1_2 := K_a_2.out.cell 1 _ rfl
       have hk_a_2_2 := K_a_2.out.cell 2 _ rfl
       go_wp2_with fail
       refine (l02Gcd_any A B n c m d (toN xs) (toN ys) _ (HAn.out.below HB_2.out (Nat.le_refl _)).1 (HBn.out.below HB_2.out (Nat.le_refl _)).1 HCx.out HCy.out HA.out.2.2.2 HB.out.2.2.2 (by omega) (by omega)).mono ?_
       rintro e w3 ⟨vg, rfl, ho, hb⟩
       obtain ⟨Ag, cg, rfl⟩ := ho.shape
       have HOg := Lib.hid ho
       clear ho
       have K_a_3 := Lib.hid (K_a_2.out.after hb)
       have HB_3 := Lib.hid (HB_2.out.trans (hb.mono HB_2.out.size))
       clear hb
       clear hk_a_0_2
       clear hk_a_1_2
       clear hk_a_2_2
       go_wp2_with fail
       refine (l04One_any Ag _ cg _ _ HOg.out.row (by have := HOg.out.arg.max; exact this)).mono ?_
       rintro e w4 ⟨rfl, rfl⟩
       rw [isOne_dig]
       have HO1 := Lib.hid (show okR s xs ys = decide (Nat.gcd (val (toN xs)) (val (toN ys)) = 1) by unfold okR; rw [H1.out, H2.out]; have e1 := HA.out.ilen; have e2 := HB.out.ilen; simp; intro _; omega)
       obtain ⟨z, hz⟩ : ∃ z, decide (Nat.gcd (val (toN xs)) (val (toN ys)) = 1) = z := ⟨_, rfl⟩
       rw [hz] at HO1 ⊢
       clear hz
       go_wp2
       go_ret
       exact ⟨by rw [HO1.out]; rfl, HB_3.out⟩
   · rw [Bool.not_eq_true] at h2
     rw [h2]
     have HO0 := Lib.hid (show okR s xs ys = false by unfold okR; simp [h2])
     have hk_a_0_2 := K_a_2.out.cell 0 _ rfl
     have hk_a_1_2 := K_a_2.out.cell 1 _ rfl
     have hk_a_2_2 := K_a_2.out.cell 2 _ rfl
     go_wp2
     go_ret
     exact ⟨by rw [HO0.out]; rfl, HB_2.out⟩
 · rw [Bool.not_eq_true] at h1
   rw [h1]
   have HO0 := Lib.hid (show okR s xs ys = false by unfold okR; simp [h1])
   have hk_a_0_1 := K_a_1.out.cell 0 _ rfl
   have hk_a_1_1 := K_a_1.out.cell 1 _ rfl
   have hk_a_2_1 := K_a_1.out.cell 2 _ rfl
   go_wp2
   go_ret
   exact ⟨by rw [HO0.out]; rfl, HB_1.out⟩
set_option maxRecDepth 100000 in
set_option maxHeartbeats 4000000 in
theorem isValidR_any (s : Bool) (A : Option Addr) (n c : Nat) (xs : List Int) (B : Option Addr) (m d : Nat) (ys : List Int) (w : World) (hA : Arg w A n c (ints xs)) (hB : Arg w B m d (ints ys)) :
   Calls Tryz.prog 41 #[.agg #[.bool s, .slice A n c, .slice B m d]] w fun e w' => e = .returned (.bool (okR s xs ys)) ∧ Below w.heap.size w w' := by
 have HA := Lib.hid hA
 have HB := Lib.hid hB
 clear hA hB
 have hn := HA.out.max
 have hm := HB.out.max
 unfold maxLen at hn hm
 have HLX := Lib.hid HA.out.ilen
 have HLY := Lib.hid HB.out.ilen
 go_enter Tryz.func41, Tryz.ntmps41
 have HB_0 := Lib.hid ((Below.refl w.heap.size w).alloc (Nat.le_refl _) (.cells #[.bool s, .slice A n c, .slice B m d] 37))
 have K_a_0 := Lib.hid (HeldL.new_at w (w.heap.size) [.bool s, .slice A n c, .slice B m d] 37 (by first | rfl | simp))
 by_cases h3 : 24 < n ∨ 24 < m
 · have HO0 := Lib.hid (show okR s xs ys = false by unfold okR; rw [HLX.out, HLY.out]; simp; intros; omega)
   by_cases h4 : 24 < n
   · go_wp2
     go_ret
     exact ⟨by rw [HO0.out]; rfl, HB_0.out⟩
   · go_wp2
     go_ret
     exact ⟨by rw [HO0.out]; rfl, HB_0.out⟩
 · have hm1 : ¬ 24 < m := by omega
   have hn1 : ¬ 24 < n := by omega
   go_wp2_with fail
   refine (bigIntOk_impl s A n c xs _ (HA.out.below HB_0.out (Nat.le_refl _)).1 HA.out.max).mono ?_
   rintro e w1 ⟨rfl, hb⟩
   have K_a_1 := Lib.hid (K_a_0.out.after hb)
   have HB_1 := Lib.hid (HB_0.out.trans (hb.mono HB_0.out.size))
   clear hb
   by_cases h1 : okB s xs = true
   · rw [h1]
     have hk_a_0_1 := K_a_1.out.cell 0 _ rfl
     have hk_a_1_1 := K_a_1.out.cell 1 _ rfl
     have hk_a_2_1 := K_a_1.out.cell 2 _ rfl
     go_wp2_with fail
     refine (natOk_impl B m d ys _ (HB.out.below HB_1.out (Nat.le_refl _)).1 HB.out.max).mono ?_
     rintro e w2 ⟨rfl, hb⟩
     have K_a_2 := Lib.hid (K_a_1.out.after hb)
     have HB_2 := Lib.hid (HB_1.out.trans (hb.mono HB_1.out.size))
     clear hb
     clear hk_a_0_1
     clear hk_a_1_1
     clear hk_a_2_1
     by_cases h2 : okI ys = true
     · rw [h2]
       by_cases h3 : m = 0
       · subst h3
         have HO0 := Lib.hid (show okR s xs ys = false by unfold okR; rw [HLX.out, HLY.out]; simp)
         have hk_a_0_2 := K_a_2.out.cell 0 _ rfl
         have hk_a_1_2 := K_a_2.out.cell 1 _ rfl
         have hk_a_2_2 := K_a_2.out.cell 2 _ rfl
         go_wp2
         go_ret
         exact ⟨by rw [HO0.out]; rfl, HB_2.out⟩
       · obtain ⟨hex, hcx, hlx⟩ := okI_nats (okB_ok h1)
         obtain ⟨hey, hcy, hly⟩ := okI_nats h2
         rw [toN_len, HA.out.ilen] at hlx
         rw [toN_len, HB.out.ilen] at hly
         have HAn := Lib.hid (hex ▸ HA.out)
         have HBn := Lib.hid (hey ▸ HB.out)
         have HCx := Lib.hid hcx
         have HCy := Lib.hid hcy
         have H1 := Lib.hid h1
         have H2 := Lib.hid h2
         clear hex hey hcx hcy h1 h2
         have hm0 : 0 < m := by omega
         have HG := Lib.hid (gcdN_yes (okB_ok H1.out) H2.out)
         have hk_a_0_2 := K_a_2.out.cell 0 _ rfl
         have hk_a_1_2 := K_a_2.out.cell 1 _ rfl
         have hk_a_2_2 := K_a_2.out.cell 2 _ rfl
         go_wp2_with fail
         refine (natGcd_impl A B n c m d xs ys _ (HA.out.below HB_2.out (Nat.le_refl _)).1 (HB.out.below HB_2.out (Nat.le_refl _)).1 HA.out.max HB.out.max).mono ?_
         rintro e w3 ⟨vg, rfl, ho, hb⟩
         obtain ⟨Ag, cg, rfl⟩ := ho.shape
         have HOg := Lib.hid ho
         clear ho
         have K_a_3 := Lib.hid (K_a_2.out.after hb)
         have HB_3 := Lib.hid (HB_2.out.trans (hb.mono HB_2.out.size))
         clear hb
         clear hk_a_0_2
         clear hk_a_1_2
         clear hk_a_2_2
         go_wp2_with fail
         refine (isOneRow_any Ag _ cg _ _ HOg.out.row (by have := HOg.out.arg.max; exact this)).mono ?_
         rintro e w4 ⟨rfl, rfl⟩
         rw [HG.out, isOne_dig]
         have HO1 := Lib.hid (show okR s xs ys = decide (Nat.gcd (val (toN xs)) (val (toN ys)) = 1) by unfold okR; rw [H1.out, H2.out]; have e1 := HA.out.ilen; have e2 := HB.out.ilen; simp; intro _; omega)
         obtain ⟨z, hz⟩ : ∃ z, decide (Nat.gcd (val (toN xs)) (val (toN ys)) = 1) = z := ⟨_, rfl⟩
         rw [hz] at HO1 ⊢
         clear hz
         go_wp2
         go_ret
         exact ⟨by rw [HO1.out]; rfl, HB_3.out⟩
     · rw [Bool.not_eq_true] at h2
       rw [h2]
       have HO0 := Lib.hid (show okR s xs ys = false by unfold okR; simp [h2])
       have hk_a_0_2 := K_a_2.out.cell 0 _ rfl
       have hk_a_1_2 := K_a_2.out.cell 1 _ rfl
       have hk_a_2_2 := K_a_2.out.cell 2 _ rfl
       go_wp2
       go_ret
       exact ⟨by rw [HO0.out]; rfl, HB_2.out⟩
   · rw [Bool.not_eq_true] at h1
     rw [h1]
     have HO0 := Lib.hid (show okR s xs ys = false by unfold okR; simp [h1])
     have hk_a_0_1 := K_a_1.out.cell 0 _ rfl
     have hk_a_1_1 := K_a_1.out.cell 1 _ rfl
     have hk_a_2_1 := K_a_1.out.cell 2 _ rfl
     go_wp2
     go_ret
     exact ⟨by rw [HO0.out]; rfl, HB_1.out⟩
structure Rl where
 s : Bool
 A : Option Addr
 n : Nat
 c : Nat
 xs : List Int
 B : Option Addr
 m : Nat
 d : Nat
 ys : List Int
def Rl.cells (r : Rl) : List Value := [.bool r.s, .slice r.A r.n r.c, .slice r.B r.m r.d]
def Rl.ok (r : Rl) : Bool := okR r.s r.xs r.ys
def Rl.arg (w : World) (r : Rl) : Prop := Arg w r.A r.n r.c (ints r.xs) ∧ Arg w r.B r.m r.d (ints r.ys)
structure RlRow (w : World) (A : Option Addr) (n : Nat) (L : List Rl) : Prop where
 len : L.length = n
 cell : 0 < n → ∃ g o, A = some ⟨g, o, none⟩ ∧ g < w.heap.size ∧ ∀ k (hk : k < L.length) (j : Nat) (v : Value), (L[k].cells)[j]? = some v → w.cell? ⟨g, o + k * 3 + j, none⟩ = some v
 arg : ∀ r ∈ L, r.arg w
theorem Rl.arg.below {w w' : World} {r : Rl} (h : r.arg w) (hb : Below w.heap.size w w') : r.arg w' := ⟨h.1.below hb (Nat.le_refl _), h.2.below hb (Nat.le_refl _)⟩
theorem RlRow.below {w w' : World} {A : Option Addr} {n : Nat} {L : List Rl} (h : RlRow w A n L) (hb : Below w.heap.size w w') : RlRow w' A n L := by
 refine ⟨h.len, fun hn => ?_, fun z hz => (h.arg z hz).below hb⟩
 obtain ⟨g, o, rfl, hg, hc⟩ := h.cell hn
 exact ⟨g, o, rfl, Nat.lt_of_lt_of_le hg hb.size, fun k hk j v hj => (hb.cell (p := ⟨g, o + k * 3 + j, none⟩) hg).trans (hc k hk j v hj)⟩
theorem RlRow.at_ {w : World} {A : Option Addr} {n : Nat} {L : List Rl} (h : RlRow w A n L) {k : Nat} (hk : k < n) : ∃ g o z, A = some ⟨g, o, none⟩ ∧ g < w.heap.size ∧ L[k]? = some z ∧ z.arg w ∧ ∀ (j : Nat) (v : Value), (z.cells)[j]? = some v → w.cell? ⟨g, o + k * 3 + j, none⟩ = some v := by
 obtain ⟨g, o, e, hg, hc⟩ := h.cell (by omega)
 have hk' : k < L.length := by rw [h.len]; exact hk
 exact ⟨g, o, L[k], e, hg, List.getElem?_eq_getElem hk', h.arg _ (List.getElem_mem hk'), hc k hk'⟩
theorem RlRow.two {u : World} {T : TypeId} (r t : Rl) (hr : r.arg u) (ht : t.arg u) : RlRow (u.alloc (.cells (r.cells ++ t.cells).toArray T)) (some ⟨u.heap.size, 0, none⟩) 2 [r, t] := by
 have hb : Below u.heap.size u (u.alloc (.cells (r.cells ++ t.cells).toArray T)) := (Below.refl _ _).alloc (Nat.le_refl _) _
 have hh := HeldL.new u (r.cells ++ t.cells) T
 refine ⟨rfl, fun _ => ⟨u.heap.size, 0, rfl, hh.lt, ?_⟩, ?_⟩
 · intro k hk j v hj
   match k, hk with
   | 0, _ =>
     have hj3 : j < 3 := by have := (List.getElem?_eq_some_iff.mp hj).1; simpa [Rl.cells] using this
     refine hh.cell _ _ ?_
     rw [Nat.zero_mul, Nat.zero_add, List.getElem?_append_left (by simpa [Rl.cells] using hj3)]; exact hj
   | 1, _ =>
     refine hh.cell _ _ ?_
     rw [List.getElem?_append_right (by simp [Rl.cells] <;> omega)]
     rw [show 0 + 1 * 3 + j - r.cells.length = j by simp [Rl.cells]]; exact hj
 · intro z hz
   simp only [List.mem_cons, List.not_mem_nil, or_false] at hz
   rcases hz with rfl | rfl
   · exact hr.below hb
   · exact ht.below hb
theorem rl_all {L : List Rl} : L.all Rl.ok = true ↔ ∀ i z, i < L.length → L[i]? = some z → z.ok = true := by
 rw [List.all_eq_true]
 constructor
 · intro h i z _ hz; exact h z (List.mem_of_getElem? hz)
 · intro h z hz
   obtain ⟨i, hi⟩ := List.mem_iff_getElem?.mp hz
   exact h i z (List.getElem?_eq_some_iff.mp hi).1 hi
theorem rl_bad {L : List Rl} {k : Nat} {z : Rl} (h : L[k]? = some z) (hz : z.ok = false) : L.all Rl.ok = false := by
 rw [← Bool.not_eq_true, rl_all]
 intro h1
 have := h1 k z (List.getElem?_eq_some_iff.mp h).1 h
 rw [hz] at this; exact absurd this (by decide)
theorem rl_step {L : List Rl} {k : Nat} {z : Rl} (h : ∀ i z, i < k → L[i]? = some z → z.ok = true) (h1 : L[k]? = some z) (hl : z.ok = true) : ∀ i z, i < k + 1 → L[i]? = some z → z.ok = true := by
 intro i a hi ha
 by_cases e : i = k
 · subst e
   obtain rfl := Option.some.inj (h1.symm.trans ha)
   exact hl
 · exact h i a (by omega) ha
set_option maxRecDepth 100000 in
set_option maxHeartbeats 4000000 in
theorem areValid_l (A : Option Addr) (n c : Nat) (L : List Rl) (w : World) (hA : RlRow w A n L) (hn : n ≤ 1048576) :
   Calls Tryz.prog 61 #[.slice A n c] w fun e w' => e = .returned (.bool (L.all Rl.ok)) ∧ Below w.heap.size w w' := by
 have HA := Lib.hid hA
 have HL := Lib.hid hA.len
 obtain ⟨ok, hok⟩ : ∃ z, L.all Rl.ok = z := ⟨_, rfl⟩
 rw [hok]
 have HOK := Lib.hid hok
 clear hA hok
 go_enter Tryz.func61, Tryz.ntmps61
 go_wp2
 go_loopw [7] (fun i wr => ∃ k : Nat, k ≤ n ∧ i = .int .i64 k ∧ (∀ i z, i < k → L[i]? = some z → z.ok = true) ∧ Below w.heap.size w wr) (fun i _ => n - (intOf i).toNat)
 case atStart => exact ⟨0, Nat.zero_le _, rfl, fun i z hi => by omega, Below.refl _ _⟩
 case round =>
   obtain ⟨k, hk, rfl, hv, hb⟩ := hrel
   have HV := Lib.hid hv
   have HB := Lib.hid hb
   clear hv hb
   by_cases hlt : k < n
   · obtain ⟨g, o, z, rfl, hg, hz, hr, hc⟩ := (HA.out.below HB.out).at_ hlt
     obtain ⟨s, a0, n0, c0, xs, a1, n1, c1, ys⟩ := z
     have HZ := Lib.hid hz
     have HR := Lib.hid hr
     have d0 : wr.cell? ⟨g, o + k * 3, none⟩ = some (.bool s) := hc 0 _ rfl
     have d1 : wr.cell? ⟨g, o + k * 3 + 1, none⟩ = some (.slice a0 n0 c0) := hc 1 _ rfl
     have d2 : wr.cell? ⟨g, o + k * 3 + 2, none⟩ = some (.slice a1 n1 c1) := hc 2 _ rfl
     clear hz hr hc
     go_wp2_with fail
     have HB1 := Lib.hid (HB.out.alloc HB.out.size (.cells #[.bool s, .slice a0 n0 c0, .slice a1 n1 c1] 37))
     refine (isValidR_any s a0 n0 c0 xs a1 n1 c1 ys _ (HR.out.1.below ((Below.refl _ _).alloc (Nat.le_refl _) _) (Nat.le_refl _)) (HR.out.2.below ((Below.refl _ _).alloc (Nat.le_refl _) _) (Nat.le_refl _))).mono ?_
     rintro e w1 ⟨rfl, hb⟩
     have HB2 := Lib.hid (HB1.out.trans (hb.mono HB1.out.size))
     clear hb HB1 d0 d1 d2
     by_cases hz : okR s xs ys = true
     · rw [hz]
       have HV2 := Lib.hid (rl_step HV.out HZ.out hz)
       clear hz
       go_wp2
       exact ⟨⟨k + 1, by omega, by go_num, HV2.out, HB2.out⟩, by simp [intOf]; omega⟩
     · rw [Bool.not_eq_true] at hz
       rw [hz]
       have HE := Lib.hid (show false = ok by rw [← HOK.out]; exact (rl_bad HZ.out hz).symm)
       clear hz
       go_wp2
       go_ret
       exact ⟨congrArg (fun z => Ending.returned (.bool z)) HE.out, HB2.out⟩
   · obtain rfl : k = n := by omega
     have HE := Lib.hid (show true = ok by rw [← HOK.out]; exact (rl_all.mpr (by rw [HL.out]; exact HV.out)).symm)
     go_wp2
     go_ret
     exact ⟨congrArg (fun z => Ending.returned (.bool z)) HE.out, HB.out⟩
theorem areValid_any (s : Bool) (A : Option Addr) (n c : Nat) (xs : List Int) (B : Option Addr) (m d : Nat) (ys : List Int) (t : Bool) (C : Option Addr) (p q : Nat) (us : List Int) (E : Option Addr) (k l : Nat) (vs : List Int) (u : World) {T : TypeId} {b : Nat} (hA : Arg u A n c (ints xs)) (hB : Arg u B m d (ints ys)) (hC : Arg u C p q (ints us)) (hE : Arg u E k l (ints vs)) (hbk : u.heap.size = b := by first | rfl | simp) :
   Calls Tryz.prog 61 #[.slice (some ⟨b, 0, none⟩) 2 2] (u.alloc (.cells #[.bool s, .slice A n c, .slice B m d, .bool t, .slice C p q, .slice E k l] T)) fun e w' => e = .returned (.bool (okR s xs ys && okR t us vs)) ∧ Below u.heap.size u w' := by
 subst hbk
 have h2 := areValid_l (some ⟨u.heap.size, 0, none⟩) 2 2 [⟨s, A, n, c, xs, B, m, d, ys⟩, ⟨t, C, p, q, us, E, k, l, vs⟩] _ (RlRow.two (T := T) ⟨s, A, n, c, xs, B, m, d, ys⟩ ⟨t, C, p, q, us, E, k, l, vs⟩ ⟨hA, hB⟩ ⟨hC, hE⟩) (by omega)
 have hb : Below u.heap.size u (u.alloc (.cells #[.bool s, .slice A n c, .slice B m d, .bool t, .slice C p q, .slice E k l] T)) := (Below.refl _ _).alloc (Nat.le_refl _) _
 refine h2.mono ?_
 rintro e w' ⟨rfl, hb2⟩
 exact ⟨by simp [Rl.ok], hb.trans (hb2.mono hb.size)⟩
end Go.Proofs.YtaboodioabopnaaGreat
namespace Go.Proofs.YtaboodioabopnaaGreat
open Go.RowKit Nt
set_option linter.unusedVariables false
theorem l03Make_let (s : Bool) (A : Option Addr) (n c : Nat) (ds : List Nat) (z : Int) (g : Bool) (M : List Nat) (hz : signed s (val ds) = z) (hg : sgZ z = g) (hM : magZ z = M) (w : World) (hA : Arg w A n c (nats ds)) (hd : Digs ds) :
   Calls Tryz.prog 98 #[.bool s, .slice A n c] w (OwnRB 3 g (nats M) w) := by
 subst hg hM
 exact l03Make_at s A n c ds z hz w hA.1 hd hA.2.1 hA.2.2.1 hA.2.2.2
theorem l03Add_let (s t : Bool) (A B : Option Addr) (n c m d : Nat) (ds es : List Nat) (z : Int) (g : Bool) (M : List Nat) (hz : signed s (val ds) + signed t (val es) = z) (hg : sgZ z = g) (hM : magZ z = M) (w : World) (hA : Arg w A n c (nats ds)) (hB : Arg w B m d (nats es)) (hds : Canon ds) (hes : Canon es) (hn : n ≤ 60) (hm : m ≤ 60) :
   Calls Tryz.prog 100 #[.agg #[.bool s, .slice A n c], .agg #[.bool t, .slice B m d]] w (OwnRB 3 g (nats M) w) := by
 subst hg hM hz
 exact l03Add_any s t A B n c m d ds es w hA.1 hB.1 hds hes hn hm
set_option maxRecDepth 100000 in
set_option maxHeartbeats 4000000 in
theorem l04Low_at (s : Bool) (A : Option Addr) (n c : Nat) (ds : List Nat) (B : Option Addr) (m d : Nat) (bs : List Nat) (z : Int) (b : Nat) (hz : signed s (val ds) = z) (hbv : val bs = b) (w : World) (hA : Arg w A n c (nats ds)) (hB : Arg w B m d (nats bs)) (hds : Digs ds) (hbs : Digs bs) (hn : n ≤ 60) (hm : m ≤ 60) :
   Calls Tryz.prog 101 #[.bool s, .slice A n c, .slice B m d] w (OwnRR 3 (loS z b) (nats (loN z b)) (nats (loD z b)) w) := by
 obtain ⟨a, ha⟩ : ∃ a, val ds = a := ⟨_, rfl⟩
 rw [ha] at hz
 obtain ⟨RS, hRS⟩ : ∃ y9, loS z b = y9 := ⟨_, rfl⟩
 obtain ⟨RN, hRN⟩ : ∃ y9, loN z b = y9 := ⟨_, rfl⟩
 obtain ⟨RD, hRD⟩ : ∃ y9, loD z b = y9 := ⟨_, rfl⟩
 rw [hRS, hRN, hRD]
 have HRS := Lib.hid hRS
 have HRN := Lib.hid hRN
 have HRD := Lib.hid hRD
 clear hRS hRN hRD
 obtain ⟨i0, hi, hz0, hz1, hz2⟩ := info_parts info_int
 have HTA := Lib.hid (ha ▸ hA.trim hds)
 have HTB := Lib.hid (hbv ▸ hB.trim hbs)
 have hnx : (dig a).length ≤ 60 := by have h3 := dig_le_len hds; have h4 := hA.nlen; rw [ha] at h3; omega
 have hny : (dig b).length ≤ 60 := by have h3 := dig_le_len hbs; have h4 := hB.nlen; rw [hbv] at h3; omega
 have HLX := Lib.hid hnx
 have HLY := Lib.hid hny
 have HZ := Lib.hid hz
 have HAV := Lib.hid ha
 have HBV := Lib.hid hbv
 clear hz ha hbv hnx hny
 have HA := Lib.hid hA
 have HB := Lib.hid hB
 have Hds := Lib.hid hds
 have Hbs := Lib.hid hbs
 clear hA hB hds hbs
 go_enter Tryz.func101, Tryz.ntmps101
 have HB_0 := Lib.hid ((Below.refl w.heap.size w).alloc (Nat.le_refl _) (.cells #[.bool false, .slice none 0 0, .slice none 0 0] 37))
 have K_res_0 := Lib.hid (HeldL.new_at w (w.heap.size) [.bool false, .slice none 0 0, .slice none 0 0] 37 (by first | rfl | simp))
 go_wp2_with fail
 refine (l02Trim_any A n c ds _ (HA.out.below HB_0.out (Nat.le_refl _)).1 Hds.out HA.out.2.1 HA.out.2.2.1 HA.out.2.2.2).mono ?_
 rintro e w1 ⟨rfl, rfl⟩
 rw [HAV.out]
 go_wp2_with fail
 refine (l02Trim_any B m d bs _ (HB.out.below HB_0.out (Nat.le_refl _)).1 Hbs.out HB.out.2.1 HB.out.2.2.1 HB.out.2.2.2).mono ?_
 rintro e w1 ⟨rfl, rfl⟩
 rw [HBV.out]
 obtain ⟨nx, hnx⟩ : ∃ nx, (dig a).length = nx := ⟨_, rfl⟩
 obtain ⟨ny, hny⟩ : ∃ ny, (dig b).length = ny := ⟨_, rfl⟩
 have hx60 : nx ≤ 60 := hnx ▸ HLX.out
 have hy60 : ny ≤ 60 := hny ▸ HLY.out
 rw [hnx] at HTA ⊢
 rw [hny] at HTB ⊢
 have HNX := Lib.hid hnx
 have HNY := Lib.hid hny
 clear hnx hny
 by_cases hb0 : b = 0
 · subst hb0
   obtain rfl : ny = 0 := by rw [← HNY.out, dig_zero]; rfl
   have HNO := Lib.hid (low_none HZ.out (okL_no_zero))
   obtain rfl : RS = false := by rw [← HRS.out]; exact HNO.out.1
   obtain rfl : RN = [] := by rw [← HRN.out]; exact HNO.out.2.1
   obtain rfl : RD = [] := by rw [← HRD.out]; exact HNO.out.2.2
   have hk_res_0_0 := K_res_0.out.cell 0 _ rfl
   have hk_res_0_0f := K_res_0.out.froz 0 _ rfl
   have hk_res_1_0 := K_res_0.out.cell 1 _ rfl
   have hk_res_1_0f := K_res_0.out.froz 1 _ rfl
   have hk_res_2_0 := K_res_0.out.cell 2 _ rfl
   have hk_res_2_0f := K_res_0.out.froz 2 _ rfl
   go_wp2
   have hr0 := K_res_0.out.cell 0 _ rfl
   have hr1 := K_res_0.out.cell 1 _ rfl
   have hr2 := K_res_0.out.cell 2 _ rfl
   refine bodyPost_ret (v := .agg #[.bool false, .slice none 0 0, .slice none 0 0]) (by simp [results, Tryz.results101, go_sem, hr0, hr1, hr2]) rfl ?_
   exact ⟨_, _, rfl, OwnV.nil _ _ _, OwnV.nil _ _ _, .inl rfl, .inl rfl, HB_0.out⟩
 · have hy0 : 0 < ny := by rw [← HNY.out]; exact dig_pos_len (by omega)
   have hy1 : ¬ ny = 0 := by omega
   go_wp2_with fail
   refine (l04One_any B ny d (dig b) _ (HTB.out.below HB_0.out (Nat.le_refl _)).1 (by unfold maxLen; omega)).mono ?_
   rintro e w1 ⟨rfl, rfl⟩
   rw [isOne_dig]
   by_cases hb1 : b = 1
   · have hg1 : Nat.gcd a b = 1 := by rw [hb1]; exact Nat.gcd_one_right a
     rw [decide_eq_true hb1]
     have HB0 := Lib.hid hb0
     clear hb1 hb0
     have HG1 := Lib.hid hg1
     clear hg1
     have HTX := Lib.hid (HTA.out.same (Y := nats (dig (a / Nat.gcd a b))) (by rw [(gcd_one HG1.out).1]))
     have HTY := Lib.hid (HTB.out.same (Y := nats (dig (b / Nat.gcd a b))) (by rw [(gcd_one HG1.out).2]))
     by_cases h24 : 24 < nx
     · have HNO := Lib.hid (low_none HZ.out (okL_no_num (by rw [← ((HTX.out.below HB_0.out (Nat.le_refl _))).nlen] at h24; exact h24)))
       obtain rfl : RS = false := by rw [← HRS.out]; exact HNO.out.1
       obtain rfl : RN = [] := by rw [← HRN.out]; exact HNO.out.2.1
       obtain rfl : RD = [] := by rw [← HRD.out]; exact HNO.out.2.2
       have hk_res_0_0 := K_res_0.out.cell 0 _ rfl
       have hk_res_0_0f := K_res_0.out.froz 0 _ rfl
       have hk_res_1_0 := K_res_0.out.cell 1 _ rfl
       have hk_res_1_0f := K_res_0.out.froz 1 _ rfl
       have hk_res_2_0 := K_res_0.out.cell 2 _ rfl
       have hk_res_2_0f := K_res_0.out.froz 2 _ rfl
       go_wp2
       have hr0 := K_res_0.out.cell 0 _ rfl
       have hr1 := K_res_0.out.cell 1 _ rfl
       have hr2 := K_res_0.out.cell 2 _ rfl
       refine bodyPost_ret (v := .agg #[.bool false, .slice none 0 0, .slice none 0 0]) (by simp [results, Tryz.results101, go_sem, hr0, hr1, hr2]) rfl ?_
       exact ⟨_, _, rfl, OwnV.nil _ _ _, OwnV.nil _ _ _, .inl rfl, .inl rfl, HB_0.out⟩
     · by_cases h25 : 24 < ny
       · have HNO := Lib.hid (low_none HZ.out (okL_no_den (by rw [← ((HTY.out.below HB_0.out (Nat.le_refl _))).nlen] at h25; exact h25)))
         obtain rfl : RS = false := by rw [← HRS.out]; exact HNO.out.1
         obtain rfl : RN = [] := by rw [← HRN.out]; exact HNO.out.2.1
         obtain rfl : RD = [] := by rw [← HRD.out]; exact HNO.out.2.2
         have hk_res_0_0 := K_res_0.out.cell 0 _ rfl
         have hk_res_0_0f := K_res_0.out.froz 0 _ rfl
         have hk_res_1_0 := K_res_0.out.cell 1 _ rfl
         have hk_res_1_0f := K_res_0.out.froz 1 _ rfl
         have hk_res_2_0 := K_res_0.out.cell 2 _ rfl
         have hk_res_2_0f := K_res_0.out.froz 2 _ rfl
         go_wp2
         have hr0 := K_res_0.out.cell 0 _ rfl
         have hr1 := K_res_0.out.cell 1 _ rfl
         have hr2 := K_res_0.out.cell 2 _ rfl
         refine bodyPost_ret (v := .agg #[.bool false, .slice none 0 0, .slice none 0 0]) (by simp [results, Tryz.results101, go_sem, hr0, hr1, hr2]) rfl ?_
         exact ⟨_, _, rfl, OwnV.nil _ _ _, OwnV.nil _ _ _, .inl rfl, .inl rfl, HB_0.out⟩
       · have HLM := Lib.hid (low_make HZ.out (okL_yes HB0.out (by rw [((HTX.out.below HB_0.out (Nat.le_refl _))).nlen]; exact h24) (by rw [((HTY.out.below HB_0.out (Nat.le_refl _))).nlen]; exact h25)))
         have HSG := Lib.hid (show sgZ (signed s (a / Nat.gcd a b)) = RS by rw [← HRS.out]; exact HLM.out.1.symm)
         have HMG := Lib.hid (show magZ (signed s (a / Nat.gcd a b)) = RN by rw [← HRN.out]; exact HLM.out.2.1.symm)
         have HDG := Lib.hid (show dig (b / Nat.gcd a b) = RD by rw [← HRD.out]; exact HLM.out.2.2.symm)
         have hk_res_0_0 := K_res_0.out.cell 0 _ rfl
         have hk_res_0_0f := K_res_0.out.froz 0 _ rfl
         have hk_res_1_0 := K_res_0.out.cell 1 _ rfl
         have hk_res_1_0f := K_res_0.out.froz 1 _ rfl
         have hk_res_2_0 := K_res_0.out.cell 2 _ rfl
         have hk_res_2_0f := K_res_0.out.froz 2 _ rfl
         go_wp2_with fail
         refine (l03Make_let s A nx c (dig (a / Nat.gcd a b)) _ RS RN (by rw [val_dig]) HSG.out HMG.out _ ((HTX.out.below HB_0.out (Nat.le_refl _))) (dig_can _).1).mono ?_
         rintro e w9 ⟨v9, rfl, ho, hb⟩
         obtain ⟨A9, c9, rfl⟩ := ho.shape
         have HO9 := Lib.hid ho
         clear ho
         have K_res_1 := Lib.hid (K_res_0.out.after hb)
         have HB_1 := Lib.hid (HB_0.out.trans (hb.mono HB_0.out.size))
         clear hb
         clear hk_res_0_0
         clear hk_res_0_0f
         clear hk_res_1_0
         clear hk_res_1_0f
         clear hk_res_2_0
         clear hk_res_2_0f
         have hk_res_0_1 := K_res_1.out.cell 0 _ rfl
         have hk_res_0_1f := K_res_1.out.froz 0 _ rfl
         have hk_res_1_1 := K_res_1.out.cell 1 _ rfl
         have hk_res_1_1f := K_res_1.out.froz 1 _ rfl
         have hk_res_2_1 := K_res_1.out.cell 2 _ rfl
         have hk_res_2_1f := K_res_1.out.froz 2 _ rfl
         have HMa := Lib.hid (World.ownsRow_made (base := w9.heap.size) (e := 3) (size := 1) w9 #[] 0 (by simp) (Nat.zero_le _) rfl)
         have HRa := Lib.hid ((((HTY.out.below HB_1.out (Nat.le_refl _))).same (Y := nats RD) (by rw [HDG.out])).below ((Below.refl _ _).alloc (Nat.le_refl _) (.cells #[] 3)) (Nat.le_refl _))
         have HOCa := Lib.hid (nats_oneCell (RD))
         go_wp2_with (at_builtin; refine wpList_append_row rfl (.tmp 51) (.tmp 52) 33 rfl w9.heap.size 3 i0 _ 8 Tryz.underlying33 hi hz0 hz1 hz2 rfl _ 0 [] rfl HMa.out B ny d (nats (RD)) rfl HRa.out.1 HRa.out.2.2.2 HOCa.out (by unfold maxLen; omega) (by omega) (by simp) ?_)
         intro va w10 hown1 hgrow1
         obtain ⟨ho, hb⟩ := appended hown1 hgrow1
         clear hown1 hgrow1
         obtain ⟨Aa, ca, rfl⟩ := ho.shape
         have HOa := Lib.hid ho
         have AP_O9_Oa := Lib.hid (OwnV.apart HO9.out ho (Nat.le_refl _))
         have AP_Oa_O9 := Lib.hid (OwnV.apart' ho HO9.out (Nat.le_refl _))
         clear ho
         have K_res_2 := Lib.hid (K_res_1.out.after hb)
         have H_O9_2 := Lib.hid (OwnV.below (w := w9) HO9.out hb)
         have HB_2 := Lib.hid (HB_1.out.trans (hb.mono HB_1.out.size))
         clear hb
         clear hk_res_0_1
         clear hk_res_0_1f
         clear hk_res_1_1
         clear hk_res_1_1f
         clear hk_res_2_1
         clear hk_res_2_1f
         have hk_res_0_2 := K_res_2.out.cell 0 _ rfl
         have hk_res_0_2f := K_res_2.out.froz 0 _ rfl
         have hk_res_1_2 := K_res_2.out.cell 1 _ rfl
         have hk_res_1_2f := K_res_2.out.froz 1 _ rfl
         have hk_res_2_2 := K_res_2.out.cell 2 _ rfl
         have hk_res_2_2f := K_res_2.out.froz 2 _ rfl
         go_wp2
         have hr0 := K_res_2.out.cell 0 _ rfl
         have hr1 := K_res_2.out.cell 1 _ rfl
         have hr2 := K_res_2.out.cell 2 _ rfl
         exact bodyPost_ret (v := .agg #[.bool RS, .slice A9 (nats RN).length c9, .slice Aa (nats RD).length ca]) (by simp [results, Tryz.results101, go_sem, hr0, hr1, hr2]) rfl (ownRR_close HB_2.out H_O9_2.out HOa.out K_res_0.out.lt K_res_1.out.lt (by omega) AP_O9_Oa.out AP_Oa_O9.out)
   · rw [decide_eq_false hb1]
     have HB0 := Lib.hid hb0
     clear hb1 hb0
     go_wp2_with fail
     have HGC := Lib.hid (l02Gcd_any A B nx c ny d (dig a) (dig b) _ (HTA.out.below HB_0.out (Nat.le_refl _)).1 (HTB.out.below HB_0.out (Nat.le_refl _)).1 (dig_can _) (dig_can _) HTA.out.2.2.2 HTB.out.2.2.2 hx60 hy60)
     rw [val_dig, val_dig] at HGC
     refine (HGC.out).mono ?_
     rintro e w2 ⟨vg, rfl, ho, hb⟩
     obtain ⟨Ag, cg, rfl⟩ := ho.shape
     have HOg := Lib.hid ho
     clear ho
     have K_res_1 := Lib.hid (K_res_0.out.after hb)
     have HB_1 := Lib.hid (HB_0.out.trans (hb.mono HB_0.out.size))
     clear hb
     have hg60 := Lib.hid (show (nats (dig (Nat.gcd a b))).length ≤ 60 by rw [nats_len]; exact dig_len (gcd_lt (dig_len_iff.mp (HNX.out ▸ hx60)) (dig_len_iff.mp (HNY.out ▸ hy60))))
     go_wp2_with fail
     refine (l04One_any Ag _ cg (dig (Nat.gcd a b)) _ HOg.out.row (by have := HOg.out.arg.max; exact this)).mono ?_
     rintro e w3 ⟨rfl, hw⟩
     obtain rfl := hw.symm
     rw [isOne_dig]
     by_cases hg1 : Nat.gcd a b = 1
     · rw [decide_eq_true hg1]
       have HG1 := Lib.hid hg1
       clear hg1
       have HTX := Lib.hid (HTA.out.same (Y := nats (dig (a / Nat.gcd a b))) (by rw [(gcd_one HG1.out).1]))
       have HTY := Lib.hid (HTB.out.same (Y := nats (dig (b / Nat.gcd a b))) (by rw [(gcd_one HG1.out).2]))
       by_cases h24 : 24 < nx
       · have HNO := Lib.hid (low_none HZ.out (okL_no_num (by rw [← ((HTX.out.below HB_1.out (Nat.le_refl _))).nlen] at h24; exact h24)))
         obtain rfl : RS = false := by rw [← HRS.out]; exact HNO.out.1
         obtain rfl : RN = [] := by rw [← HRN.out]; exact HNO.out.2.1
         obtain rfl : RD = [] := by rw [← HRD.out]; exact HNO.out.2.2
         have hk_res_0_1 := K_res_1.out.cell 0 _ rfl
         have hk_res_0_1f := K_res_1.out.froz 0 _ rfl
         have hk_res_1_1 := K_res_1.out.cell 1 _ rfl
         have hk_res_1_1f := K_res_1.out.froz 1 _ rfl
         have hk_res_2_1 := K_res_1.out.cell 2 _ rfl
         have hk_res_2_1f := K_res_1.out.froz 2 _ rfl
         go_wp2
         have hr0 := K_res_1.out.cell 0 _ rfl
         have hr1 := K_res_1.out.cell 1 _ rfl
         have hr2 := K_res_1.out.cell 2 _ rfl
         refine bodyPost_ret (v := .agg #[.bool false, .slice none 0 0, .slice none 0 0]) (by simp [results, Tryz.results101, go_sem, hr0, hr1, hr2]) rfl ?_
         exact ownRR_close HB_1.out (OwnV.nil _ (w.heap.size + 1) _) (OwnV.nil _ (w.heap.size + 1) _) (Nat.lt_succ_self _) (Nat.lt_succ_self _) (by omega) (.inl rfl) (.inl rfl)
       · by_cases h25 : 24 < ny
         · have HNO := Lib.hid (low_none HZ.out (okL_no_den (by rw [← ((HTY.out.below HB_1.out (Nat.le_refl _))).nlen] at h25; exact h25)))
           obtain rfl : RS = false := by rw [← HRS.out]; exact HNO.out.1
           obtain rfl : RN = [] := by rw [← HRN.out]; exact HNO.out.2.1
           obtain rfl : RD = [] := by rw [← HRD.out]; exact HNO.out.2.2
           have hk_res_0_1 := K_res_1.out.cell 0 _ rfl
           have hk_res_0_1f := K_res_1.out.froz 0 _ rfl
           have hk_res_1_1 := K_res_1.out.cell 1 _ rfl
           have hk_res_1_1f := K_res_1.out.froz 1 _ rfl
           have hk_res_2_1 := K_res_1.out.cell 2 _ rfl
           have hk_res_2_1f := K_res_1.out.froz 2 _ rfl
           go_wp2
           have hr0 := K_res_1.out.cell 0 _ rfl
           have hr1 := K_res_1.out.cell 1 _ rfl
           have hr2 := K_res_1.out.cell 2 _ rfl
           refine bodyPost_ret (v := .agg #[.bool false, .slice none 0 0, .slice none 0 0]) (by simp [results, Tryz.results101, go_sem, hr0, hr1, hr2]) rfl ?_
           exact ownRR_close HB_1.out (OwnV.nil _ (w.heap.size + 1) _) (OwnV.nil _ (w.heap.size + 1) _) (Nat.lt_succ_self _) (Nat.lt_succ_self _) (by omega) (.inl rfl) (.inl rfl)
         · have HLM := Lib.hid (low_make HZ.out (okL_yes HB0.out (by rw [((HTX.out.below HB_1.out (Nat.le_refl _))).nlen]; exact h24) (by rw [((HTY.out.below HB_1.out (Nat.le_refl _))).nlen]; exact h25)))
           have HSG := Lib.hid (show sgZ (signed s (a / Nat.gcd a b)) = RS by rw [← HRS.out]; exact HLM.out.1.symm)
           have HMG := Lib.hid (show magZ (signed s (a / Nat.gcd a b)) = RN by rw [← HRN.out]; exact HLM.out.2.1.symm)
           have HDG := Lib.hid (show dig (b / Nat.gcd a b) = RD by rw [← HRD.out]; exact HLM.out.2.2.symm)
           have hk_res_0_1 := K_res_1.out.cell 0 _ rfl
           have hk_res_0_1f := K_res_1.out.froz 0 _ rfl
           have hk_res_1_1 := K_res_1.out.cell 1 _ rfl
           have hk_res_1_1f := K_res_1.out.froz 1 _ rfl
           have hk_res_2_1 := K_res_1.out.cell 2 _ rfl
           have hk_res_2_1f := K_res_1.out.froz 2 _ rfl
           go_wp2_with fail
           refine (l03Make_let s A nx c (dig (a / Nat.gcd a b)) _ RS RN (by rw [val_dig]) HSG.out HMG.out _ ((HTX.out.below HB_1.out (Nat.le_refl _))) (dig_can _).1).mono ?_
           rintro e w9 ⟨v9, rfl, ho, hb⟩
           obtain ⟨A9, c9, rfl⟩ := ho.shape
           have HO9 := Lib.hid ho
           have AP_Og_O9 := Lib.hid (OwnV.apart HOg.out ho (Nat.le_refl _))
           have AP_O9_Og := Lib.hid (OwnV.apart' ho HOg.out (Nat.le_refl _))
           clear ho
           have K_res_2 := Lib.hid (K_res_1.out.after hb)
           have H_Og_2 := Lib.hid (OwnV.below (w := w2) HOg.out hb)
           have HB_2 := Lib.hid (HB_1.out.trans (hb.mono HB_1.out.size))
           clear hb
           clear hk_res_0_1
           clear hk_res_0_1f
           clear hk_res_1_1
           clear hk_res_1_1f
           clear hk_res_2_1
           clear hk_res_2_1f
           have hk_res_0_2 := K_res_2.out.cell 0 _ rfl
           have hk_res_0_2f := K_res_2.out.froz 0 _ rfl
           have hk_res_1_2 := K_res_2.out.cell 1 _ rfl
           have hk_res_1_2f := K_res_2.out.froz 1 _ rfl
           have hk_res_2_2 := K_res_2.out.cell 2 _ rfl
           have hk_res_2_2f := K_res_2.out.froz 2 _ rfl
           have HMa := Lib.hid (World.ownsRow_made (base := w9.heap.size) (e := 3) (size := 1) w9 #[] 0 (by simp) (Nat.zero_le _) rfl)
           have HRa := Lib.hid ((((HTY.out.below HB_2.out (Nat.le_refl _))).same (Y := nats RD) (by rw [HDG.out])).below ((Below.refl _ _).alloc (Nat.le_refl _) (.cells #[] 3)) (Nat.le_refl _))
           have HOCa := Lib.hid (nats_oneCell (RD))
           go_wp2_with (at_builtin; refine wpList_append_row rfl (.tmp 51) (.tmp 52) 33 rfl w9.heap.size 3 i0 _ 8 Tryz.underlying33 hi hz0 hz1 hz2 rfl _ 0 [] rfl HMa.out B ny d (nats (RD)) rfl HRa.out.1 HRa.out.2.2.2 HOCa.out (by unfold maxLen; omega) (by omega) (by simp) ?_)
           intro va w10 hown1 hgrow1
           obtain ⟨ho, hb⟩ := appended hown1 hgrow1
           clear hown1 hgrow1
           obtain ⟨Aa, ca, rfl⟩ := ho.shape
           have HOa := Lib.hid ho
           have AP_Og_Oa := Lib.hid (OwnV.apart H_Og_2.out ho (Nat.le_refl _))
           have AP_Oa_Og := Lib.hid (OwnV.apart' ho H_Og_2.out (Nat.le_refl _))
           have AP_O9_Oa := Lib.hid (OwnV.apart HO9.out ho (Nat.le_refl _))
           have AP_Oa_O9 := Lib.hid (OwnV.apart' ho HO9.out (Nat.le_refl _))
           clear ho
           have K_res_3 := Lib.hid (K_res_2.out.after hb)
           have H_Og_3 := Lib.hid (OwnV.below (w := w9) H_Og_2.out hb)
           have H_O9_3 := Lib.hid (OwnV.below (w := w9) HO9.out hb)
           have HB_3 := Lib.hid (HB_2.out.trans (hb.mono HB_2.out.size))
           clear hb
           clear hk_res_0_2
           clear hk_res_0_2f
           clear hk_res_1_2
           clear hk_res_1_2f
           clear hk_res_2_2
           clear hk_res_2_2f
           have hk_res_0_3 := K_res_3.out.cell 0 _ rfl
           have hk_res_0_3f := K_res_3.out.froz 0 _ rfl
           have hk_res_1_3 := K_res_3.out.cell 1 _ rfl
           have hk_res_1_3f := K_res_3.out.froz 1 _ rfl
           have hk_res_2_3 := K_res_3.out.cell 2 _ rfl
           have hk_res_2_3f := K_res_3.out.froz 2 _ rfl
           go_wp2
           have hr0 := K_res_3.out.cell 0 _ rfl
           have hr1 := K_res_3.out.cell 1 _ rfl
           have hr2 := K_res_3.out.cell 2 _ rfl
           exact bodyPost_ret (v := .agg #[.bool RS, .slice A9 (nats RN).length c9, .slice Aa (nats RD).length ca]) (by simp [results, Tryz.results101, go_sem, hr0, hr1, hr2]) rfl (ownRR_close HB_3.out H_O9_3.out HOa.out K_res_1.out.lt K_res_2.out.lt (by omega) AP_O9_Oa.out AP_Oa_O9.out)
     · rw [decide_eq_false hg1]
       have HGP := Lib.hid (show 0 < (nats (dig (Nat.gcd a b))).length by rw [nats_len]; exact dig_pos_len (Nat.gcd_pos_of_pos_right a (Nat.pos_of_ne_zero HB0.out)))
       clear hg1
       go_wp2_with fail
       have HDx := Lib.hid (l02Div_any A Ag nx c _ cg (dig a) (dig (Nat.gcd a b)) _ (HTA.out.below HB_1.out (Nat.le_refl _)).1 HOg.out.row (dig_can _).1 (dig_can _) HGP.out (by omega) (by have := hg60.out; omega))
       rw [val_dig, val_dig] at HDx
       refine (HDx.out).mono ?_
       rintro e wx ⟨vx, ux, rfl, ho, ho1, ap0, ap1, hb⟩
       obtain ⟨Ax, cx, rfl⟩ := ho.shape
       obtain ⟨Arx, crx, rfl⟩ := ho1.shape
       have HOx := Lib.hid ho
       have AP_Og_Ox := Lib.hid (OwnV.apart HOg.out ho (Nat.le_refl _))
       have AP_Ox_Og := Lib.hid (OwnV.apart' ho HOg.out (Nat.le_refl _))
       clear ho ho1 ap0 ap1
       have K_res_2 := Lib.hid (K_res_1.out.after hb)
       have H_Og_2 := Lib.hid (OwnV.below (w := w2) HOg.out hb)
       have HB_2 := Lib.hid (HB_1.out.trans (hb.mono HB_1.out.size))
       clear hb
       go_wp2_with fail
       have HDy := Lib.hid (l02Div_any B Ag ny d _ cg (dig b) (dig (Nat.gcd a b)) _ (HTB.out.below HB_2.out (Nat.le_refl _)).1 H_Og_2.out.row (dig_can _).1 (dig_can _) HGP.out (by omega) (by have := hg60.out; omega))
       rw [val_dig, val_dig] at HDy
       refine (HDy.out).mono ?_
       rintro e wy ⟨vy, uy, rfl, ho, ho1, ap0, ap1, hb⟩
       obtain ⟨Ay, cy, rfl⟩ := ho.shape
       obtain ⟨Ary, cry, rfl⟩ := ho1.shape
       have HOy := Lib.hid ho
       have AP_Og_Oy := Lib.hid (OwnV.apart H_Og_2.out ho (Nat.le_refl _))
       have AP_Oy_Og := Lib.hid (OwnV.apart' ho H_Og_2.out (Nat.le_refl _))
       have AP_Ox_Oy := Lib.hid (OwnV.apart HOx.out ho (Nat.le_refl _))
       have AP_Oy_Ox := Lib.hid (OwnV.apart' ho HOx.out (Nat.le_refl _))
       clear ho ho1 ap0 ap1
       have K_res_3 := Lib.hid (K_res_2.out.after hb)
       have H_Og_3 := Lib.hid (OwnV.below (w := wx) H_Og_2.out hb)
       have H_Ox_3 := Lib.hid (OwnV.below (w := wx) HOx.out hb)
       have HB_3 := Lib.hid (HB_2.out.trans (hb.mono HB_2.out.size))
       clear hb
       have HLx := Lib.hid (show (nats (dig (a / Nat.gcd a b))).length ≤ 60 by rw [nats_len]; exact dig_len (Nat.lt_of_le_of_lt (Nat.div_le_self _ _) (dig_len_iff.mp (HNX.out ▸ hx60))))
       have hlx := HLx.out
       obtain ⟨Nx, hNx⟩ : ∃ k, (nats (dig (a / Nat.gcd a b))).length = k := ⟨_, rfl⟩
       rw [hNx] at H_Ox_3 hlx ⊢
       have HNNx := Lib.hid hNx
       clear hNx
       have HLy := Lib.hid (show (nats (dig (b / Nat.gcd a b))).length ≤ 60 by rw [nats_len]; exact dig_len (Nat.lt_of_le_of_lt (Nat.div_le_self _ _) (dig_len_iff.mp (HNY.out ▸ hy60))))
       have hly := HLy.out
       obtain ⟨Ny, hNy⟩ : ∃ k, (nats (dig (b / Nat.gcd a b))).length = k := ⟨_, rfl⟩
       rw [hNy] at HOy hly ⊢
       have HNNy := Lib.hid hNy
       clear hNy
       by_cases h24 : 24 < Nx
       · have HNO := Lib.hid (low_none HZ.out (okL_no_num (by rw [← (H_Ox_3.out.arg).nlen] at h24; exact h24)))
         obtain rfl : RS = false := by rw [← HRS.out]; exact HNO.out.1
         obtain rfl : RN = [] := by rw [← HRN.out]; exact HNO.out.2.1
         obtain rfl : RD = [] := by rw [← HRD.out]; exact HNO.out.2.2
         have hk_res_0_3 := K_res_3.out.cell 0 _ rfl
         have hk_res_0_3f := K_res_3.out.froz 0 _ rfl
         have hk_res_1_3 := K_res_3.out.cell 1 _ rfl
         have hk_res_1_3f := K_res_3.out.froz 1 _ rfl
         have hk_res_2_3 := K_res_3.out.cell 2 _ rfl
         have hk_res_2_3f := K_res_3.out.froz 2 _ rfl
         go_wp2
         have hr0 := K_res_3.out.cell 0 _ rfl
         have hr1 := K_res_3.out.cell 1 _ rfl
         have hr2 := K_res_3.out.cell 2 _ rfl
         refine bodyPost_ret (v := .agg #[.bool false, .slice none 0 0, .slice none 0 0]) (by simp [results, Tryz.results101, go_sem, hr0, hr1, hr2]) rfl ?_
         exact ownRR_close HB_3.out (OwnV.nil _ (w.heap.size + 1) _) (OwnV.nil _ (w.heap.size + 1) _) (Nat.lt_succ_self _) (Nat.lt_succ_self _) (by omega) (.inl rfl) (.inl rfl)
       · by_cases h25 : 24 < Ny
         · have HNO := Lib.hid (low_none HZ.out (okL_no_den (by rw [← (HOy.out.arg).nlen] at h25; exact h25)))
           obtain rfl : RS = false := by rw [← HRS.out]; exact HNO.out.1
           obtain rfl : RN = [] := by rw [← HRN.out]; exact HNO.out.2.1
           obtain rfl : RD = [] := by rw [← HRD.out]; exact HNO.out.2.2
           have hk_res_0_3 := K_res_3.out.cell 0 _ rfl
           have hk_res_0_3f := K_res_3.out.froz 0 _ rfl
           have hk_res_1_3 := K_res_3.out.cell 1 _ rfl
           have hk_res_1_3f := K_res_3.out.froz 1 _ rfl
           have hk_res_2_3 := K_res_3.out.cell 2 _ rfl
           have hk_res_2_3f := K_res_3.out.froz 2 _ rfl
           go_wp2
           have hr0 := K_res_3.out.cell 0 _ rfl
           have hr1 := K_res_3.out.cell 1 _ rfl
           have hr2 := K_res_3.out.cell 2 _ rfl
           refine bodyPost_ret (v := .agg #[.bool false, .slice none 0 0, .slice none 0 0]) (by simp [results, Tryz.results101, go_sem, hr0, hr1, hr2]) rfl ?_
           exact ownRR_close HB_3.out (OwnV.nil _ (w.heap.size + 1) _) (OwnV.nil _ (w.heap.size + 1) _) (Nat.lt_succ_self _) (Nat.lt_succ_self _) (by omega) (.inl rfl) (.inl rfl)
         · have HLM := Lib.hid (low_make HZ.out (okL_yes HB0.out (by rw [(H_Ox_3.out.arg).nlen]; exact h24) (by rw [(HOy.out.arg).nlen]; exact h25)))
           have HSG := Lib.hid (show sgZ (signed s (a / Nat.gcd a b)) = RS by rw [← HRS.out]; exact HLM.out.1.symm)
           have HMG := Lib.hid (show magZ (signed s (a / Nat.gcd a b)) = RN by rw [← HRN.out]; exact HLM.out.2.1.symm)
           have HDG := Lib.hid (show dig (b / Nat.gcd a b) = RD by rw [← HRD.out]; exact HLM.out.2.2.symm)
           have hk_res_0_3 := K_res_3.out.cell 0 _ rfl
           have hk_res_0_3f := K_res_3.out.froz 0 _ rfl
           have hk_res_1_3 := K_res_3.out.cell 1 _ rfl
           have hk_res_1_3f := K_res_3.out.froz 1 _ rfl
           have hk_res_2_3 := K_res_3.out.cell 2 _ rfl
           have hk_res_2_3f := K_res_3.out.froz 2 _ rfl
           go_wp2_with fail
           refine (l03Make_let s Ax Nx cx (dig (a / Nat.gcd a b)) _ RS RN (by rw [val_dig]) HSG.out HMG.out _ (H_Ox_3.out.arg) (dig_can _).1).mono ?_
           rintro e w9 ⟨v9, rfl, ho, hb⟩
           obtain ⟨A9, c9, rfl⟩ := ho.shape
           have HO9 := Lib.hid ho
           have AP_Og_O9 := Lib.hid (OwnV.apart H_Og_3.out ho (Nat.le_refl _))
           have AP_O9_Og := Lib.hid (OwnV.apart' ho H_Og_3.out (Nat.le_refl _))
           have AP_Ox_O9 := Lib.hid (OwnV.apart H_Ox_3.out ho (Nat.le_refl _))
           have AP_O9_Ox := Lib.hid (OwnV.apart' ho H_Ox_3.out (Nat.le_refl _))
           have AP_Oy_O9 := Lib.hid (OwnV.apart HOy.out ho (Nat.le_refl _))
           have AP_O9_Oy := Lib.hid (OwnV.apart' ho HOy.out (Nat.le_refl _))
           clear ho
           have K_res_4 := Lib.hid (K_res_3.out.after hb)
           have H_Og_4 := Lib.hid (OwnV.below (w := wy) H_Og_3.out hb)
           have H_Ox_4 := Lib.hid (OwnV.below (w := wy) H_Ox_3.out hb)
           have H_Oy_4 := Lib.hid (OwnV.below (w := wy) HOy.out hb)
           have HB_4 := Lib.hid (HB_3.out.trans (hb.mono HB_3.out.size))
           clear hb
           clear hk_res_0_3
           clear hk_res_0_3f
           clear hk_res_1_3
           clear hk_res_1_3f
           clear hk_res_2_3
           clear hk_res_2_3f
           have hk_res_0_4 := K_res_4.out.cell 0 _ rfl
           have hk_res_0_4f := K_res_4.out.froz 0 _ rfl
           have hk_res_1_4 := K_res_4.out.cell 1 _ rfl
           have hk_res_1_4f := K_res_4.out.froz 1 _ rfl
           have hk_res_2_4 := K_res_4.out.cell 2 _ rfl
           have hk_res_2_4f := K_res_4.out.froz 2 _ rfl
           have HMa := Lib.hid (World.ownsRow_made (base := w9.heap.size) (e := 3) (size := 1) w9 #[] 0 (by simp) (Nat.zero_le _) rfl)
           have HRa := Lib.hid (((H_Oy_4.out.arg).same (Y := nats RD) (by rw [HDG.out])).below ((Below.refl _ _).alloc (Nat.le_refl _) (.cells #[] 3)) (Nat.le_refl _))
           have HOCa := Lib.hid (nats_oneCell (RD))
           go_wp2_with (at_builtin; refine wpList_append_row rfl (.tmp 51) (.tmp 52) 33 rfl w9.heap.size 3 i0 _ 8 Tryz.underlying33 hi hz0 hz1 hz2 rfl _ 0 [] rfl HMa.out Ay Ny cy (nats (RD)) rfl HRa.out.1 HRa.out.2.2.2 HOCa.out (by unfold maxLen; omega) (by omega) (by simp) ?_)
           intro va w10 hown1 hgrow1
           obtain ⟨ho, hb⟩ := appended hown1 hgrow1
           clear hown1 hgrow1
           obtain ⟨Aa, ca, rfl⟩ := ho.shape
           have HOa := Lib.hid ho
           have AP_Og_Oa := Lib.hid (OwnV.apart H_Og_4.out ho (Nat.le_refl _))
           have AP_Oa_Og := Lib.hid (OwnV.apart' ho H_Og_4.out (Nat.le_refl _))
           have AP_Ox_Oa := Lib.hid (OwnV.apart H_Ox_4.out ho (Nat.le_refl _))
           have AP_Oa_Ox := Lib.hid (OwnV.apart' ho H_Ox_4.out (Nat.le_refl _))
           have AP_Oy_Oa := Lib.hid (OwnV.apart H_Oy_4.out ho (Nat.le_refl _))
           have AP_Oa_Oy := Lib.hid (OwnV.apart' ho H_Oy_4.out (Nat.le_refl _))
           have AP_O9_Oa := Lib.hid (OwnV.apart HO9.out ho (Nat.le_refl _))
           have AP_Oa_O9 := Lib.hid (OwnV.apart' ho HO9.out (Nat.le_refl _))
           clear ho
           have K_res_5 := Lib.hid (K_res_4.out.after hb)
           have H_Og_5 := Lib.hid (OwnV.below (w := w9) H_Og_4.out hb)
           have H_Ox_5 := Lib.hid (OwnV.below (w := w9) H_Ox_4.out hb)
           have H_Oy_5 := Lib.hid (OwnV.below (w := w9) H_Oy_4.out hb)
           have H_O9_5 := Lib.hid (OwnV.below (w := w9) HO9.out hb)
           have HB_5 := Lib.hid (HB_4.out.trans (hb.mono HB_4.out.size))
           clear hb
           clear hk_res_0_4
           clear hk_res_0_4f
           clear hk_res_1_4
           clear hk_res_1_4f
           clear hk_res_2_4
           clear hk_res_2_4f
           have hk_res_0_5 := K_res_5.out.cell 0 _ rfl
           have hk_res_0_5f := K_res_5.out.froz 0 _ rfl
           have hk_res_1_5 := K_res_5.out.cell 1 _ rfl
           have hk_res_1_5f := K_res_5.out.froz 1 _ rfl
           have hk_res_2_5 := K_res_5.out.cell 2 _ rfl
           have hk_res_2_5f := K_res_5.out.froz 2 _ rfl
           go_wp2
           have hr0 := K_res_5.out.cell 0 _ rfl
           have hr1 := K_res_5.out.cell 1 _ rfl
           have hr2 := K_res_5.out.cell 2 _ rfl
           exact bodyPost_ret (v := .agg #[.bool RS, .slice A9 (nats RN).length c9, .slice Aa (nats RD).length ca]) (by simp [results, Tryz.results101, go_sem, hr0, hr1, hr2]) rfl (ownRR_close HB_5.out H_O9_5.out HOa.out K_res_3.out.lt K_res_4.out.lt (by omega) AP_O9_Oa.out AP_Oa_O9.out)
theorem l04Low_let (s : Bool) (A : Option Addr) (n c : Nat) (ds : List Nat) (B : Option Addr) (m d : Nat) (bs : List Nat) (z : Int) (b : Nat) (hz : signed s (val ds) = z) (hbv : val bs = b) (w : World) (hA : Arg w A n c (nats ds)) (hB : Arg w B m d (nats bs)) (hds : Digs ds) (hbs : Digs bs) (hn : n ≤ 60) (hm : m ≤ 60) (RS : Bool) (RN RD : List Nat) (hS : loS z b = RS) (hN : loN z b = RN) (hD : loD z b = RD) :
   Calls Tryz.prog 101 #[.bool s, .slice A n c, .slice B m d] w (OwnRR 3 RS (nats RN) (nats RD) w) := by
 subst hS hN hD
 exact l04Low_at s A n c ds B m d bs z b hz hbv w hA hB hds hbs hn hm
set_option maxRecDepth 100000 in
set_option maxHeartbeats 4000000 in
theorem reduced_at (s : Bool) (A : Option Addr) (n c : Nat) (ds : List Nat) (B : Option Addr) (m d : Nat) (bs : List Nat) (z : Int) (b : Nat) (hz : signed s (val ds) = z) (hbv : val bs = b) (w : World) (hA : Arg w A n c (nats ds)) (hB : Arg w B m d (nats bs)) (hds : Canon ds) (hbs : Canon bs) (hn : n ≤ 60) (hm : m ≤ 60) :
   Calls Tryz.prog 75 #[.agg #[.bool s, .slice A n c], .slice B m d] w (OwnRR 3 (loS z b) (nats (loN z b)) (nats (loD z b)) w) := by
 obtain ⟨a, ha⟩ : ∃ a, val ds = a := ⟨_, rfl⟩
 rw [ha] at hz
 obtain ⟨RS, hRS⟩ : ∃ y9, loS z b = y9 := ⟨_, rfl⟩
 obtain ⟨RN, hRN⟩ : ∃ y9, loN z b = y9 := ⟨_, rfl⟩
 obtain ⟨RD, hRD⟩ : ∃ y9, loD z b = y9 := ⟨_, rfl⟩
 rw [hRS, hRN, hRD]
 have HRS := Lib.hid hRS
 have HRN := Lib.hid hRN
 have HRD := Lib.hid hRD
 clear hRS hRN hRD
 have HZ := Lib.hid hz
 have HAV := Lib.hid ha
 have HBV := Lib.hid hbv
 have HLA := Lib.hid hA.nlen
 have HLB := Lib.hid hB.nlen
 have HIA := Lib.hid (okI_of_nats hds (by rw [hA.nlen]; exact hn))
 have HIB := Lib.hid (okI_of_nats hbs (by rw [hB.nlen]; exact hm))
 have HTA := Lib.hid (show dig a = ds by rw [← ha]; exact dig_of_can hds)
 have HTB := Lib.hid (show dig b = bs by rw [← hbv]; exact dig_of_can hbs)
 clear hz ha hbv
 have HA := Lib.hid hA
 have HB := Lib.hid hB
 have Hds := Lib.hid hds
 have Hbs := Lib.hid hbs
 clear hA hB hds hbs
 go_enter Tryz.func75, Tryz.ntmps75
 have HB_0 := Lib.hid (((Below.refl w.heap.size w).alloc (Nat.le_refl _) (.cells #[.bool s, .slice A n c] 35)).alloc (by simp) (.cells #[.bool false, .slice none 0 0, .slice none 0 0] 37))
 have K_a_0 := Lib.hid ((HeldL.new_at w (w.heap.size) [.bool s, .slice A n c] 35 (by first | rfl | simp)).alloc (.cells #[.bool false, .slice none 0 0, .slice none 0 0] 37))
 have K_res_0 := Lib.hid (HeldL.new_at (w.alloc (.cells #[.bool s, .slice A n c] 35)) (w.heap.size + 1) [.bool false, .slice none 0 0, .slice none 0 0] 37 (by first | rfl | simp))
 have hne_a_res : w.heap.size ≠ w.heap.size + 1 := by omega
 have hne_res_a : w.heap.size + 1 ≠ w.heap.size := by omega
 by_cases hm0 : m = 0
 · subst hm0
   obtain rfl : b = 0 := by rw [← HBV.out, List.eq_nil_of_length_eq_zero HLB.out]; rfl
   have HNO := Lib.hid (low_none HZ.out (okL_no_zero))
   obtain rfl : RS = false := by rw [← HRS.out]; exact HNO.out.1
   obtain rfl : RN = [] := by rw [← HRN.out]; exact HNO.out.2.1
   obtain rfl : RD = [] := by rw [← HRD.out]; exact HNO.out.2.2
   have hk_res_0_0 := K_res_0.out.cell 0 _ rfl
   have hk_res_0_0f := K_res_0.out.froz 0 _ rfl
   have hk_res_1_0 := K_res_0.out.cell 1 _ rfl
   have hk_res_1_0f := K_res_0.out.froz 1 _ rfl
   have hk_res_2_0 := K_res_0.out.cell 2 _ rfl
   have hk_res_2_0f := K_res_0.out.froz 2 _ rfl
   go_wp2
   have hr0 := K_res_0.out.cell 0 _ rfl
   have hr1 := K_res_0.out.cell 1 _ rfl
   have hr2 := K_res_0.out.cell 2 _ rfl
   refine bodyPost_ret (v := .agg #[.bool false, .slice none 0 0, .slice none 0 0]) (by simp [results, Tryz.results75, go_sem, hr0, hr1, hr2]) rfl ?_
   exact ⟨_, _, rfl, OwnV.nil _ _ _, OwnV.nil _ _ _, .inl rfl, .inl rfl, HB_0.out⟩
 · have HB0 := Lib.hid (show b ≠ 0 by intro e; apply hm0; rw [← HLB.out, ← HTB.out, e, dig_zero]; rfl)
   have hk_a_0_0 := K_a_0.out.cell 0 _ rfl
   have hk_a_1_0 := K_a_0.out.cell 1 _ rfl
   go_wp2_with fail
   have HGC := Lib.hid (natGcd_impl A B n c m d (ds.map fun x : Nat => (x : Int)) (bs.map fun x : Nat => (x : Int)) _ (HA.out.below HB_0.out (Nat.le_refl _)).1 (HB.out.below HB_0.out (Nat.le_refl _)).1 HA.out.max HB.out.max)
   rw [gcdN_yes HIA.out HIB.out, toN_nats, toN_nats, HAV.out, HBV.out] at HGC
   refine (HGC.out).mono ?_
   rintro e w2 ⟨vg, rfl, ho, hb⟩
   obtain ⟨Ag, cg, rfl⟩ := ho.shape
   have HOg := Lib.hid ho
   clear ho
   have K_a_1 := Lib.hid (K_a_0.out.after hb)
   have K_res_1 := Lib.hid (K_res_0.out.after hb)
   have HB_1 := Lib.hid (HB_0.out.trans (hb.mono HB_0.out.size))
   clear hb
   have HG60 := Lib.hid (show (dig (Nat.gcd a b)).length ≤ 60 from dig_len (gcd_lt (dig_len_iff.mp (by rw [HTA.out, HLA.out]; exact hn)) (dig_len_iff.mp (by rw [HTB.out, HLB.out]; exact hm))))
   have HIG := Lib.hid (okI_of_nats (dig_can (Nat.gcd a b)) HG60.out)
   clear hk_a_0_0
   clear hk_a_1_0
   have hk_a_0_1 := K_a_1.out.cell 0 _ rfl
   have hk_a_1_1 := K_a_1.out.cell 1 _ rfl
   go_wp2_with fail
   have HDx := Lib.hid (natDiv_impl A Ag n c _ cg (ds.map fun x : Nat => (x : Int)) ((dig (Nat.gcd a b)).map fun x : Nat => (x : Int)) _ (HA.out.below HB_1.out (Nat.le_refl _)).1 HOg.out.row HA.out.max (by have := HOg.out.arg.max; exact this))
   rw [quoN_yes HIA.out HIG.out, toN_nats, toN_nats, val_dig, HAV.out] at HDx
   refine (HDx.out).mono ?_
   rintro e wx ⟨vx, ux, rfl, ho, ho1, ap0, ap1, hb⟩
   obtain ⟨Ax, cx, rfl⟩ := ho.shape
   obtain ⟨Arx, crx, rfl⟩ := ho1.shape
   have HOx := Lib.hid ho
   have AP_Og_Ox := Lib.hid (OwnV.apart HOg.out ho (Nat.le_refl _))
   have AP_Ox_Og := Lib.hid (OwnV.apart' ho HOg.out (Nat.le_refl _))
   clear ho ho1 ap0 ap1
   have K_a_2 := Lib.hid (K_a_1.out.after hb)
   have K_res_2 := Lib.hid (K_res_1.out.after hb)
   have H_Og_2 := Lib.hid (OwnV.below (w := w2) HOg.out hb)
   have HB_2 := Lib.hid (HB_1.out.trans (hb.mono HB_1.out.size))
   clear hb
   clear hk_a_0_1
   clear hk_a_1_1
   have hk_a_0_2 := K_a_2.out.cell 0 _ rfl
   have hk_a_1_2 := K_a_2.out.cell 1 _ rfl
   go_wp2_with fail
   have HDy := Lib.hid (natDiv_impl B Ag m d _ cg (bs.map fun x : Nat => (x : Int)) ((dig (Nat.gcd a b)).map fun x : Nat => (x : Int)) _ (HB.out.below HB_2.out (Nat.le_refl _)).1 H_Og_2.out.row HB.out.max (by have := H_Og_2.out.arg.max; exact this))
   rw [quoN_yes HIB.out HIG.out, toN_nats, toN_nats, val_dig, HBV.out] at HDy
   refine (HDy.out).mono ?_
   rintro e wy ⟨vy, uy, rfl, ho, ho1, ap0, ap1, hb⟩
   obtain ⟨Ay, cy, rfl⟩ := ho.shape
   obtain ⟨Ary, cry, rfl⟩ := ho1.shape
   have HOy := Lib.hid ho
   have AP_Og_Oy := Lib.hid (OwnV.apart H_Og_2.out ho (Nat.le_refl _))
   have AP_Oy_Og := Lib.hid (OwnV.apart' ho H_Og_2.out (Nat.le_refl _))
   have AP_Ox_Oy := Lib.hid (OwnV.apart HOx.out ho (Nat.le_refl _))
   have AP_Oy_Ox := Lib.hid (OwnV.apart' ho HOx.out (Nat.le_refl _))
   clear ho ho1 ap0 ap1
   have K_a_3 := Lib.hid (K_a_2.out.after hb)
   have K_res_3 := Lib.hid (K_res_2.out.after hb)
   have H_Og_3 := Lib.hid (OwnV.below (w := wx) H_Og_2.out hb)
   have H_Ox_3 := Lib.hid (OwnV.below (w := wx) HOx.out hb)
   have HB_3 := Lib.hid (HB_2.out.trans (hb.mono HB_2.out.size))
   clear hb
   clear hk_a_0_2
   clear hk_a_1_2
   have HLx := Lib.hid (show (nats (dig (a / Nat.gcd a b))).length ≤ 60 by rw [nats_len]; exact dig_len (Nat.lt_of_le_of_lt (Nat.div_le_self _ _) (dig_len_iff.mp (by rw [HTA.out, HLA.out]; exact hn))))
   have hlx := HLx.out
   obtain ⟨Nx, hNx⟩ : ∃ k, (nats (dig (a / Nat.gcd a b))).length = k := ⟨_, rfl⟩
   rw [hNx] at H_Ox_3 hlx AP_Ox_Oy AP_Oy_Ox ⊢
   have HNNx := Lib.hid hNx
   clear hNx
   have HLy := Lib.hid (show (nats (dig (b / Nat.gcd a b))).length ≤ 60 by rw [nats_len]; exact dig_len (Nat.lt_of_le_of_lt (Nat.div_le_self _ _) (dig_len_iff.mp (by rw [HTB.out, HLB.out]; exact hm))))
   have hly := HLy.out
   obtain ⟨Ny, hNy⟩ : ∃ k, (nats (dig (b / Nat.gcd a b))).length = k := ⟨_, rfl⟩
   rw [hNy] at HOy hly AP_Ox_Oy AP_Oy_Ox ⊢
   have HNNy := Lib.hid hNy
   clear hNy
   by_cases h24 : 24 < Nx
   · have HNO := Lib.hid (low_none HZ.out (okL_no_num (by rw [H_Ox_3.out.arg.nlen]; exact h24)))
     obtain rfl : RS = false := by rw [← HRS.out]; exact HNO.out.1
     obtain rfl : RN = [] := by rw [← HRN.out]; exact HNO.out.2.1
     obtain rfl : RD = [] := by rw [← HRD.out]; exact HNO.out.2.2
     have hk_res_0_3 := K_res_3.out.cell 0 _ rfl
     have hk_res_0_3f := K_res_3.out.froz 0 _ rfl
     have hk_res_1_3 := K_res_3.out.cell 1 _ rfl
     have hk_res_1_3f := K_res_3.out.froz 1 _ rfl
     have hk_res_2_3 := K_res_3.out.cell 2 _ rfl
     have hk_res_2_3f := K_res_3.out.froz 2 _ rfl
     go_wp2
     have hr0 := K_res_3.out.cell 0 _ rfl
     have hr1 := K_res_3.out.cell 1 _ rfl
     have hr2 := K_res_3.out.cell 2 _ rfl
     refine bodyPost_ret (v := .agg #[.bool false, .slice none 0 0, .slice none 0 0]) (by simp [results, Tryz.results75, go_sem, hr0, hr1, hr2]) rfl ?_
     exact ownRR_close HB_3.out (OwnV.nil _ (w.heap.size + 1 + 1) _) (OwnV.nil _ (w.heap.size + 1 + 1) _) (Nat.lt_succ_self _) (Nat.lt_succ_self _) (by omega) (.inl rfl) (.inl rfl)
   · by_cases h25 : 24 < Ny
     · have HNO := Lib.hid (low_none HZ.out (okL_no_den (by rw [HOy.out.arg.nlen]; exact h25)))
       obtain rfl : RS = false := by rw [← HRS.out]; exact HNO.out.1
       obtain rfl : RN = [] := by rw [← HRN.out]; exact HNO.out.2.1
       obtain rfl : RD = [] := by rw [← HRD.out]; exact HNO.out.2.2
       have hk_res_0_3 := K_res_3.out.cell 0 _ rfl
       have hk_res_0_3f := K_res_3.out.froz 0 _ rfl
       have hk_res_1_3 := K_res_3.out.cell 1 _ rfl
       have hk_res_1_3f := K_res_3.out.froz 1 _ rfl
       have hk_res_2_3 := K_res_3.out.cell 2 _ rfl
       have hk_res_2_3f := K_res_3.out.froz 2 _ rfl
       go_wp2
       have hr0 := K_res_3.out.cell 0 _ rfl
       have hr1 := K_res_3.out.cell 1 _ rfl
       have hr2 := K_res_3.out.cell 2 _ rfl
       refine bodyPost_ret (v := .agg #[.bool false, .slice none 0 0, .slice none 0 0]) (by simp [results, Tryz.results75, go_sem, hr0, hr1, hr2]) rfl ?_
       exact ownRR_close HB_3.out (OwnV.nil _ (w.heap.size + 1 + 1) _) (OwnV.nil _ (w.heap.size + 1 + 1) _) (Nat.lt_succ_self _) (Nat.lt_succ_self _) (by omega) (.inl rfl) (.inl rfl)
     · have HLM := Lib.hid (low_some HZ.out (okL_yes HB0.out (by rw [H_Ox_3.out.arg.nlen]; exact h24) (by rw [HOy.out.arg.nlen]; exact h25)))
       have HMG := Lib.hid (show dig (a / Nat.gcd a b) = RN by rw [← HRN.out]; exact HLM.out.2.1.symm)
       have HDG := Lib.hid (show dig (b / Nat.gcd a b) = RD by rw [← HRD.out]; exact HLM.out.2.2.symm)
       have HSG := Lib.hid (show (s && decide (0 < Nx)) = RS by rw [← HRS.out, HLM.out.1, ← HNNx.out, nats_len])
       rw [HMG.out] at H_Ox_3
       rw [HDG.out] at HOy
       have hk_a_0_3 := K_a_3.out.cell 0 _ rfl
       have hk_a_1_3 := K_a_3.out.cell 1 _ rfl
       have hk_res_0_3 := K_res_3.out.cell 0 _ rfl
       have hk_res_0_3f := K_res_3.out.froz 0 _ rfl
       have hk_res_1_3 := K_res_3.out.cell 1 _ rfl
       have hk_res_1_3f := K_res_3.out.froz 1 _ rfl
       have hk_res_2_3 := K_res_3.out.cell 2 _ rfl
       have hk_res_2_3f := K_res_3.out.froz 2 _ rfl
       go_wp2_with fail
       refine (bigIntWith_any s Ax Nx cx _ (by omega)).mono ?_
       rintro e w9 ⟨rfl, hb⟩
       rw [HSG.out]
       have K_a_4 := Lib.hid (K_a_3.out.after hb)
       have K_res_4 := Lib.hid (K_res_3.out.after hb)
       have H_Og_4 := Lib.hid (OwnV.below (w := wy) H_Og_3.out hb)
       have H_Ox_4 := Lib.hid (OwnV.below (w := wy) H_Ox_3.out hb)
       have H_Oy_4 := Lib.hid (OwnV.below (w := wy) HOy.out hb)
       have HB_4 := Lib.hid (HB_3.out.trans (hb.mono HB_3.out.size))
       clear hb
       clear hk_a_0_3
       clear hk_a_1_3
       clear hk_res_0_3
       clear hk_res_0_3f
       clear hk_res_1_3
       clear hk_res_1_3f
       clear hk_res_2_3
       clear hk_res_2_3f
       have hk_res_0_4 := K_res_4.out.cell 0 _ rfl
       have hk_res_0_4f := K_res_4.out.froz 0 _ rfl
       have hk_res_1_4 := K_res_4.out.cell 1 _ rfl
       have hk_res_1_4f := K_res_4.out.froz 1 _ rfl
       have hk_res_2_4 := K_res_4.out.cell 2 _ rfl
       have hk_res_2_4f := K_res_4.out.froz 2 _ rfl
       go_wp2
       have hr0 := K_res_4.out.cell 0 _ rfl
       have hr1 := K_res_4.out.cell 1 _ rfl
       have hr2 := K_res_4.out.cell 2 _ rfl
       exact bodyPost_ret (v := .agg #[.bool RS, .slice Ax Nx cx, .slice Ay Ny cy]) (by simp [results, Tryz.results75, go_sem, hr0, hr1, hr2]) rfl (ownRR_close HB_4.out H_Ox_4.out H_Oy_4.out K_res_1.out.lt K_res_2.out.lt (by omega) AP_Ox_Oy.out AP_Oy_Ox.out)
theorem reduced_let (s : Bool) (A : Option Addr) (n c : Nat) (ds : List Nat) (B : Option Addr) (m d : Nat) (bs : List Nat) (z : Int) (b : Nat) (hz : signed s (val ds) = z) (hbv : val bs = b) (w : World) (hA : Arg w A n c (nats ds)) (hB : Arg w B m d (nats bs)) (hds : Canon ds) (hbs : Canon bs) (hn : n ≤ 60) (hm : m ≤ 60) (RS : Bool) (RN RD : List Nat) (hS : loS z b = RS) (hN : loN z b = RN) (hD : loD z b = RD) :
   Calls Tryz.prog 75 #[.agg #[.bool s, .slice A n c], .slice B m d] w (OwnRR 3 RS (nats RN) (nats RD) w) := by
 subst hS hN hD
 exact reduced_at s A n c ds B m d bs z b hz hbv w hA hB hds hbs hn hm
end Go.Proofs.YtaboodioabopnaaGreat
namespace Go.Proofs.YtaboodioabopnaaGreat
open Go.RowKit Nt
set_option linter.unusedVariables false
set_option maxRecDepth 100000 in
set_option maxHeartbeats 4000000 in
theorem ratFromInt_spec (x : Int) (w : World) (hx : -9223372036854775808 ≤ x ∧ x ≤ 9223372036854775807) :
   Calls Tryz.prog 31 #[.int .i64 x] w (OwnRR 3 (sgZ x) (nats (magZ x)) (nats ([1])) w) := by
 have Hx := Lib.hid hx
 clear hx
 obtain ⟨gx, hgx⟩ : ∃ y9, sgZ x = y9 := ⟨_, rfl⟩
 obtain ⟨mx, hmx⟩ : ∃ y9, magZ x = y9 := ⟨_, rfl⟩
 rw [hgx, hmx]
 have Hgx := Lib.hid hgx
 have Hmx := Lib.hid hmx
 clear hgx hmx
 go_enter Tryz.func31, Tryz.ntmps31
 have HB_0 := Lib.hid ((Below.refl w.heap.size w).alloc (Nat.le_refl _) (.cells #[.bool false, .slice none 0 0, .slice none 0 0] 37))
 have K_res_0 := Lib.hid (HeldL.new_at w (w.heap.size) [.bool false, .slice none 0 0, .slice none 0 0] 37 (by first | rfl | simp))
 go_wp2_with fail
 have HCx := Lib.hid (bigIntOf_spec x (w.alloc (.cells #[.bool false, .slice none 0 0, .slice none 0 0] 37)) Hx.out)
 rw [Hgx.out, Hmx.out] at HCx
 refine (HCx.out).mono ?_
 rintro e wx ⟨vx, rfl, ho, hb⟩
 obtain ⟨Ax, cx, rfl⟩ := ho.shape
 have HOx := Lib.hid ho
 clear ho
 have K_res_1 := Lib.hid (K_res_0.out.after hb)
 have HB_1 := Lib.hid (HB_0.out.trans (hb.mono HB_0.out.size))
 clear hb
 have hoa : OwnV (wx.alloc (.cells #[.int .i64 1] 3)) wx.heap.size 3 (.slice (some ⟨wx.heap.size, 0, none⟩) 1 1) (nats [1]) := OwnV.of_whole (ys := nats [1]) (whole_of (Nat.le_refl _) (by show (wx.alloc (.cells #[.int .i64 1] 3)).heap[wx.heap.size]? = some (.cells #[.int .i64 1] 3); unfold World.alloc; simp) (by unfold maxLen; decide))
 have HOa := Lib.hid hoa
 have AP_Ox_Oa := Lib.hid (OwnV.apart HOx.out hoa (Nat.le_refl _))
 have AP_Oa_Ox := Lib.hid (OwnV.apart' hoa HOx.out (Nat.le_refl _))
 clear hoa
 have K_res_2 := Lib.hid (K_res_1.out.alloc (.cells #[.int .i64 1] 3))
 have hne_res_one : w.heap.size ≠ wx.heap.size := by have := K_res_1.out.lt; omega
 have hne_one_res : wx.heap.size ≠ w.heap.size := by have := K_res_1.out.lt; omega
 have K_one_2 := Lib.hid (HeldL.new wx [.int .i64 1] 3)
 have H_Ox_2 := Lib.hid (OwnV.below HOx.out ((Below.refl _ wx).alloc (Nat.le_refl _) (.cells #[.int .i64 1] 3)))
 have HB_2 := Lib.hid (HB_1.out.alloc HB_1.out.size (.cells #[.int .i64 1] 3))
 have hk_res_0_2 := K_res_2.out.cell 0 _ rfl
 have hk_res_0_2f := K_res_2.out.froz 0 _ rfl
 have hk_res_1_2 := K_res_2.out.cell 1 _ rfl
 have hk_res_1_2f := K_res_2.out.froz 1 _ rfl
 have hk_res_2_2 := K_res_2.out.cell 2 _ rfl
 have hk_res_2_2f := K_res_2.out.froz 2 _ rfl
 go_wp2
 have hr0 := K_res_2.out.cell 0 _ rfl
 have hr1 := K_res_2.out.cell 1 _ rfl
 have hr2 := K_res_2.out.cell 2 _ rfl
 exact bodyPost_ret (v := .agg #[.bool gx, .slice Ax (nats mx).length cx, .slice (some ⟨wx.heap.size, 0, none⟩) 1 1]) (by simp [results, Tryz.results31, go_sem, hr0, hr1, hr2]) rfl (ownRR_close HB_2.out H_Ox_2.out HOa.out K_res_0.out.lt K_res_1.out.lt (by omega) AP_Ox_Oa.out AP_Oa_Ox.out)
end Go.Proofs.YtaboodioabopnaaGreat
namespace Go.Proofs.YtaboodioabopnaaGreat
open Go.RowKit Nt
set_option linter.unusedVariables false
theorem cmp_small {a b : Int} (ha : a.natAbs < 1000000000 ^ 60) (hb : b.natAbs < 1000000000 ^ 60) : cmpS (sgZ a) (sgZ b) (val (magZ a)) (val (magZ b)) = cmpZ a b := by
 rw [sgZ_small ha, sgZ_small hb, magZ_small ha, magZ_small hb, val_dig, val_dig]
 exact cmpS_cmpZ
def sgnR (s : Bool) (xs ys : List Int) : Int := if okR s xs ys = true then cmpZ (zOf s xs) 0 else 0
end Go.Proofs.YtaboodioabopnaaGreat
namespace Go.Proofs.YtaboodioabopnaaGreat
open Go.RowKit Nt
set_option linter.unusedVariables false
theorem sgnR_nil {s : Bool} {xs ys : List Int} (h : xs.length = 0) : sgnR s xs ys = 0 := by
 unfold sgnR
 rw [zOf, List.eq_nil_of_length_eq_zero h]
 have e : signed s (val (toN [])) = 0 := by cases s <;> rfl
 rw [e]
 split <;> rfl
theorem zOf_pos {xs ys : List Int} {s : Bool} (h : okR s xs ys = true) (hl : 0 < xs.length) : 0 < val (toN xs) := val_pos (okI_nats (okB_ok (okR_parts h).1)).2.1 (by rw [toN_len]; exact hl)
theorem sgnR_true {xs ys : List Int} (h : okR true xs ys = true) (hl : 0 < xs.length) : sgnR true xs ys = -1 := by
 have h1 := zOf_pos h hl
 have h2 : zOf true xs < 0 := by simp [zOf, signed]; omega
 unfold sgnR cmpZ
 rw [if_pos h, if_pos h2]
theorem sgnR_false {xs ys : List Int} (h : okR false xs ys = true) (hl : 0 < xs.length) : sgnR false xs ys = 1 := by
 have h1 := zOf_pos h hl
 have h2 : 0 < zOf false xs := by simp [zOf, signed]; omega
 unfold sgnR cmpZ
 rw [if_pos h, if_neg (by omega), if_neg (by omega)]
theorem sgnR_no {s : Bool} {xs ys : List Int} (h : okR s xs ys = false) : sgnR s xs ys = 0 := by unfold sgnR; rw [h]; rfl
set_option maxRecDepth 100000 in
set_option maxHeartbeats 4000000 in
theorem ratSign_spec (s : Bool) (A : Option Addr) (n c : Nat) (xs : List Int) (B : Option Addr) (m d : Nat) (ys : List Int) (w : World) (hA : Arg w A n c (ints xs)) (hB : Arg w B m d (ints ys)) :
   Calls Tryz.prog 53 #[.agg #[.bool s, .slice A n c, .slice B m d]] w fun e w' => e = .returned (.int .i64 (sgnR s xs ys)) ∧ Below w.heap.size w w' := by
 obtain ⟨Q, hQ⟩ : ∃ y9, sgnR s xs ys = y9 := ⟨_, rfl⟩
 rw [hQ]
 have HL := Lib.hid hA.ilen
 have hn := hA.max
 unfold maxLen at hn
 have HQ := Lib.hid hQ
 have HA := Lib.hid hA
 have HB := Lib.hid hB
 clear hQ hA hB
 go_enter Tryz.func53, Tryz.ntmps53
 have HB_0 := Lib.hid ((Below.refl w.heap.size w).alloc (Nat.le_refl _) (.cells #[.bool s, .slice A n c, .slice B m d] 37))
 have K_a_0 := Lib.hid (HeldL.new_at w (w.heap.size) [.bool s, .slice A n c, .slice B m d] 37 (by first | rfl | simp))
 go_wp2_with fail
 refine (ratOk_spec s A n c xs B m d ys _ (HA.out.below HB_0.out (Nat.le_refl _)) (HB.out.below HB_0.out (Nat.le_refl _))).mono ?_
 rintro e w1 ⟨rfl, hb⟩
 have K_a_1 := Lib.hid (K_a_0.out.after hb)
 have HB_1 := Lib.hid (HB_0.out.trans (hb.mono HB_0.out.size))
 clear hb
 by_cases hok : okR s xs ys = true
 · rw [hok]
   have HOK := Lib.hid hok
   clear hok
   by_cases h0 : n = 0
   · subst h0
     obtain rfl : Q = 0 := by rw [← HQ.out]; exact sgnR_nil HL.out
     have hk_a_0_1 := K_a_1.out.cell 0 _ rfl
     have hk_a_1_1 := K_a_1.out.cell 1 _ rfl
     have hk_a_2_1 := K_a_1.out.cell 2 _ rfl
     go_wp2
     go_ret
     exact ⟨rfl, HB_1.out⟩
   · have h1 : ¬ (n : Int) = 0 := by omega
     cases s
     · obtain rfl : Q = 1 := by rw [← HQ.out]; exact sgnR_false HOK.out (by rw [HL.out]; omega)
       have hk_a_0_1 := K_a_1.out.cell 0 _ rfl
       have hk_a_1_1 := K_a_1.out.cell 1 _ rfl
       have hk_a_2_1 := K_a_1.out.cell 2 _ rfl
       go_wp2
       go_ret
       exact ⟨rfl, HB_1.out⟩
     · obtain rfl : Q = -1 := by rw [← HQ.out]; exact sgnR_true HOK.out (by rw [HL.out]; omega)
       have hk_a_0_1 := K_a_1.out.cell 0 _ rfl
       have hk_a_1_1 := K_a_1.out.cell 1 _ rfl
       have hk_a_2_1 := K_a_1.out.cell 2 _ rfl
       go_wp2
       go_ret
       exact ⟨rfl, HB_1.out⟩
 · rw [Bool.not_eq_true] at hok
   rw [hok]
   obtain rfl : Q = 0 := by rw [← HQ.out]; exact sgnR_no hok
   clear hok
   have hk_a_0_1 := K_a_1.out.cell 0 _ rfl
   have hk_a_1_1 := K_a_1.out.cell 1 _ rfl
   have hk_a_2_1 := K_a_1.out.cell 2 _ rfl
   go_wp2
   go_ret
   exact ⟨rfl, HB_1.out⟩
end Go.Proofs.YtaboodioabopnaaGreat
