/- Joined: XBig XBigMake XBigCmp XBigAdd XBigOf XRatMath XStore XRatNeg XRatEq. Conditions: none. -/
import Derived.Test.YtaboodioabopnaaGreatProg
import Derived.Test.YtaboodioabopnaaGreatNB2
import Derived.Test.YtaboodioabopnaaGreatNB1
import Derived.Test.YtaboodioabopnaaGreatNB3
import Derived.Deep.DeepCutAuto
namespace Go.Proofs.YtaboodioabopnaaGreat
open Go.RowKit Nt
set_option linter.unusedVariables false
def signed (s : Bool) (v : Nat) : Int := if s then -(v : Int) else (v : Int)
def okB (s : Bool) (xs : List Int) : Bool := okI xs && (!s || decide (0 < xs.length))
def zOf (s : Bool) (xs : List Int) : Int := signed s (val (toN xs))
def magZ (z : Int) : List Nat := capd z.natAbs
def sgZ (z : Int) : Bool := decide (z < 0) && decide (0 < (capd z.natAbs).length)
def resS (ok : Bool) (z : Int) : Bool := ok && sgZ z
def resM (ok : Bool) (z : Int) : List Nat := if ok = true then magZ z else []
theorem signed_abs (s : Bool) (v : Nat) : (signed s v).natAbs = v := by cases s <;> simp [signed]
theorem capd_zero : capd 0 = [] := by rw [capd_of (Nat.pow_pos (by decide))]; unfold dig; simp
theorem sgZ_signed (s : Bool) (v : Nat) : sgZ (signed s v) = (s && decide (0 < (capd v).length)) := by
 unfold sgZ
 rw [signed_abs]
 cases s with
 | false =>
   have : ¬ signed false v < 0 := by simp [signed]
   simp [this]
 | true =>
   by_cases h : v = 0
   · subst h; simp [capd_zero]
   · have : signed true v < 0 := by simp [signed]; omega
     simp [this]
theorem magZ_signed (s : Bool) (v : Nat) : magZ (signed s v) = capd v := by unfold magZ; rw [signed_abs]
theorem signed_add (s : Bool) (a b : Nat) : signed s (a + b) = signed s a + signed s b := by cases s <;> simp [signed]; omega
theorem signed_sub (s : Bool) (a b : Nat) (h : b ≤ a) : signed s (a - b) = signed s a + signed (!s) b := by cases s <;> simp [signed] <;> omega
theorem signed_mul (s t : Bool) (a b : Nat) : signed (s != t) (a * b) = signed s a * signed t b := by cases s <;> cases t <;> simp [signed, Int.neg_mul, Int.mul_neg]
theorem back_z {z : Int} (h : z.natAbs < 1000000000 ^ 60) : signed (sgZ z) (val (magZ z)) = z := by
 have e : magZ z = dig z.natAbs := capd_of h
 rw [e, val_dig]
 unfold sgZ
 rw [capd_of h]
 by_cases hz : z < 0
 · have hl : 0 < (dig z.natAbs).length := by
     rcases Nat.eq_zero_or_pos (dig z.natAbs).length with h0 | h0
     · have h1 := val_dig z.natAbs
       rw [List.eq_nil_of_length_eq_zero h0] at h1
       simp [val] at h1
       omega
     · exact h0
   simp [hz, hl, signed]
   omega
 · simp [hz, signed]
   omega
theorem magZ_can (z : Int) : Canon (magZ z) := by
 unfold magZ capd
 split
 · exact dig_can _
 · exact ⟨by simp [Digs], by simp⟩
theorem okB_val {s : Bool} {xs : List Int} (h : okB s xs = true) : val (toN xs) < 1000000000 ^ 60 := by
 have h1 : okI xs = true := by unfold okB at h; simp at h; exact h.1
 obtain ⟨_, h2, h3⟩ := okI_nats h1
 exact Nat.lt_of_lt_of_le (val_lt h2.1) (Nat.pow_le_pow_right (by decide) h3)
theorem okB_abs {s : Bool} {xs : List Int} (h : okB s xs = true) : (zOf s xs).natAbs < 1000000000 ^ 60 := by
 unfold zOf; rw [signed_abs]; exact okB_val h
theorem okB_ok {s : Bool} {xs : List Int} (h : okB s xs = true) : okI xs = true := by unfold okB at h; simp at h; exact h.1
theorem okB_len {xs : List Int} (h : okB true xs = true) : 0 < xs.length := by unfold okB at h; simp at h; exact h.2
set_option maxRecDepth 100000 in
set_option maxHeartbeats 1000000 in
theorem bigIntOk_spec (s : Bool) (A : Option Addr) (n c : Nat) (xs : List Int) (w : World) (hA : VRow w A n (ints xs)) (hn : n ≤ maxLen) :
   Calls Tryz.prog 70 #[.agg #[.bool s, .slice A n c]] w fun e w' => e = .returned (.bool (okB s xs)) ∧ Below w.heap.size w w' := by
 have HA := Lib.hid hA
 have hl : xs.length = n := by simpa [ints] using hA.1
 have HOK := Lib.hid (show okB s xs = (okI xs && (!s || decide (0 < n))) by rw [← hl]; rfl)
 have hn2 : n ≤ 9223372036854775807 := by unfold maxLen at hn; omega
 have HN := Lib.hid hn
 clear hA hl hn
 go_enter Tryz.func70, Tryz.ntmps70
 have HW := Lib.hid ((Below.refl w.heap.size w).alloc (Nat.le_refl _) (.cells #[.bool s, .slice A n c] 35))
 go_wp2_with fail
 refine (natOk_spec A n c xs _ (HA.out.below HW.out (Nat.le_refl _)) HN.out).mono ?_
 rintro e w1 ⟨rfl, hb⟩
 have hc0 : w1.cell? ⟨w.heap.size, 0, none⟩ = some (.bool s) := by rw [hb.cell (by simp)]; simp [go_sem]
 have hc1 : w1.cell? ⟨w.heap.size, 1, none⟩ = some (.slice A n c) := by rw [hb.cell (by simp)]; simp [go_sem]
 have HB := Lib.hid (HW.out.trans (hb.mono (by simp)))
 clear hb
 obtain ⟨b, hbb⟩ : ∃ b, okI xs = b := ⟨_, rfl⟩
 have HBB := Lib.hid hbb
 rw [hbb]
 clear hbb
 cases b <;> cases s
 all_goals
   by_cases h0 : 0 < n
 all_goals
   (go_wp2; go_ret; exact ⟨by rw [HOK.out, HBB.out]; simp [h0], HB.out⟩)
set_option maxRecDepth 100000 in
set_option maxHeartbeats 1000000 in
theorem isNatural_any (A : Option Addr) (n c : Nat) (xs : List Int) (w : World) (hA : VRow w A n (ints xs)) (hn : n ≤ maxLen) :
   Calls Tryz.prog 137 #[.slice A n c] w (fun e w' => e = .returned (.bool (okI xs)) ∧ Below w.heap.size w w') := by
 have HA := Lib.hid hA
 have HN := Lib.hid hn
 clear hA hn
 go_enter Tryz.func137, Tryz.ntmps137
 go_wp2_with fail
 refine (natOk_impl A n c xs _ HA.out HN.out).mono ?_
 rintro e w1 ⟨rfl, hb⟩
 have HB1 := Lib.hid hb
 clear hb
 go_wp2
 go_ret
 exact ⟨rfl, HB1.out⟩
set_option maxRecDepth 100000 in
set_option maxHeartbeats 1000000 in
theorem isZero_any (A : Option Addr) (n c : Nat) (w : World) (hn : n ≤ 9223372036854775807) :
   Calls Tryz.prog 136 #[.slice A n c] w fun e w' => e = .returned (.bool (decide (n = 0))) ∧ w' = w := by
 go_enter Tryz.func136, Tryz.ntmps136
 go_wp2
 go_ret
 exact ⟨by by_cases h : n = 0 <;> simp [h], rfl⟩
set_option maxRecDepth 100000 in
set_option maxHeartbeats 1000000 in
theorem magCmp_any (A B : Option Addr) (n c m d : Nat) (xs ys : List Int) (w : World) (hA : VRow w A n (ints xs)) (hB : VRow w B m (ints ys)) (hn : n ≤ maxLen) (hm : m ≤ maxLen) :
   Calls Tryz.prog 132 #[.slice A n c, .slice B m d] w (fun e w' => e = .returned (.int .i64 (cmpI xs ys)) ∧ Below w.heap.size w w') := by
 have HA := Lib.hid hA
 have HB := Lib.hid hB
 have HN := Lib.hid hn
 have HM := Lib.hid hm
 clear hA hB hn hm
 go_enter Tryz.func132, Tryz.ntmps132
 go_wp2_with fail
 refine (natCmp_impl A B n c m d xs ys _ HA.out HB.out HN.out HM.out).mono ?_
 rintro e w1 ⟨rfl, hb⟩
 have HB1 := Lib.hid hb
 clear hb
 go_wp2
 go_ret
 exact ⟨rfl, HB1.out⟩
set_option maxRecDepth 100000 in
set_option maxHeartbeats 1000000 in
theorem signedOf_any (s : Bool) (A : Option Addr) (n c : Nat) (w : World) :
   Calls Tryz.prog 113 #[.agg #[.bool s, .slice A n c]] w fun e w' => e = .returned (.agg #[.slice A n c, .bool s]) ∧ Below w.heap.size w w' := by
 go_enter Tryz.func113, Tryz.ntmps113
 go_wp2
 refine bodyPost_ret (v := .agg #[.slice A n c, .bool s]) (by simp [results, Tryz.results113, go_sem]) rfl ⟨rfl, ?_⟩
 exact ((Below.refl w.heap.size w).alloc (Nat.le_refl _) _).alloc (by simp) _
set_option maxRecDepth 100000 in
set_option maxHeartbeats 1000000 in
theorem signedOf_at (s : Bool) (A : Option Addr) (n c : Nat) (w : World) :
   Calls Tryz.prog 113 #[.agg #[.bool s, .slice A n c]] w fun e w' => e = .returned (.agg #[.slice A n c, .bool s]) ∧ w' = ((w.alloc (.cells #[.bool s, .slice A n c] 35)).alloc (.cells #[.slice A n c, .bool s] 137)) := by
 go_enter Tryz.func113, Tryz.ntmps113
 go_wp2
 exact bodyPost_ret (v := .agg #[.slice A n c, .bool s]) (by simp [results, Tryz.results113, go_sem]) rfl ⟨rfl, rfl⟩
set_option maxRecDepth 100000 in
set_option maxHeartbeats 1000000 in
theorem isValid_any (s : Bool) (A : Option Addr) (n c : Nat) (xs : List Int) (w : World) (hA : VRow w A n (ints xs)) (hn : n ≤ maxLen) :
   Calls Tryz.prog 118 #[.agg #[.slice A n c, .bool s]] w fun e w' => e = .returned (.bool (okB s xs)) ∧ Below w.heap.size w w' := by
 have HA := Lib.hid hA
 have hl : xs.length = n := by simpa [ints] using hA.1
 have HOK := Lib.hid (show okB s xs = (okI xs && (!s || decide (0 < n))) by rw [← hl]; rfl)
 have hn2 : n ≤ 9223372036854775807 := by unfold maxLen at hn; omega
 have HN := Lib.hid hn
 clear hA hl hn
 go_enter Tryz.func118, Tryz.ntmps118
 have HW := Lib.hid ((Below.refl w.heap.size w).alloc (Nat.le_refl _) (.cells #[.slice A n c, .bool s] 137))
 go_wp2_with fail
 refine (isNatural_any A n c xs _ (HA.out.below HW.out (Nat.le_refl _)) HN.out).mono ?_
 rintro e w1 ⟨rfl, hb⟩
 have hc0 : w1.cell? ⟨w.heap.size, 0, none⟩ = some (.slice A n c) := by rw [hb.cell (by simp)]; simp [go_sem]
 have hc1 : w1.cell? ⟨w.heap.size, 1, none⟩ = some (.bool s) := by rw [hb.cell (by simp)]; simp [go_sem]
 have HB := Lib.hid (HW.out.trans (hb.mono (by simp)))
 clear hb
 obtain ⟨b, hbb⟩ : ∃ b, okI xs = b := ⟨_, rfl⟩
 have HBB := Lib.hid hbb
 rw [hbb]
 clear hbb
 by_cases h0 : n = 0
 all_goals cases b <;> cases s
 all_goals
   (go_wp2_with (go_at_call 136; refine (isZero_any A _ c _ (by omega)).mono ?_; rintro e w2 ⟨rfl, rfl⟩); go_ret; exact ⟨by rw [HOK.out, HBB.out]; first | (simp; done) | (simp; omega), HB.out⟩)
set_option maxRecDepth 100000 in
set_option maxHeartbeats 1000000 in
theorem bigIntOk_impl (s : Bool) (A : Option Addr) (n c : Nat) (xs : List Int) (w : World) (hA : VRow w A n (ints xs)) (hn : n ≤ maxLen) :
   Calls Tryz.prog 84 #[.agg #[.bool s, .slice A n c]] w fun e w' => e = .returned (.bool (okB s xs)) ∧ Below w.heap.size w w' := by
 have HA := Lib.hid hA
 have HN := Lib.hid hn
 clear hA hn
 go_enter Tryz.func84, Tryz.ntmps84
 have HW := Lib.hid ((Below.refl w.heap.size w).alloc (Nat.le_refl _) (.cells #[.bool s, .slice A n c] 35))
 go_wp2_with fail
 refine (signedOf_any s A n c _).mono ?_
 rintro e w1 ⟨rfl, hb⟩
 have HB := Lib.hid (HW.out.trans (hb.mono HW.out.size))
 clear hb
 go_wp2_with fail
 refine (isValid_any s A n c xs _ (HA.out.below HB.out (Nat.le_refl _)) HN.out).mono ?_
 rintro e w2 ⟨rfl, hb⟩
 have HB2 := Lib.hid (HB.out.trans (hb.mono HB.out.size))
 clear hb
 go_wp2
 go_ret
 exact ⟨rfl, HB2.out⟩
end Go.Proofs.YtaboodioabopnaaGreat
namespace Go.Proofs.YtaboodioabopnaaGreat
open Go.RowKit Nt
set_option linter.unusedVariables false
theorem VRow.take {w : World} {A : Option Addr} {n m : Nat} {xs : List Value} (h : VRow w A n xs) (hm : m ≤ n) : VRow w A m (xs.take m) := by
 refine ⟨by have := h.1; simp; omega, fun h0 => ?_⟩
 obtain ⟨g, o, e, hg, hc⟩ := h.2 (by omega)
 refine ⟨g, o, e, hg, fun k hk => ?_⟩
 rw [hc k (by omega), List.getElem?_take_of_lt hk]
set_option maxRecDepth 100000 in
set_option maxHeartbeats 1000000 in
theorem l02Cap_row (A : Option Addr) (n c : Nat) (ds : List Nat) (w : World) (hA : VRow w A n (nats ds)) (hd : Digs ds) (hnc : n ≤ c) (hc : c ≤ maxLen) (hnil : A = none → c = 0) :
   Calls Tryz.prog 122 #[.slice A n c] w fun e w' => (∃ A' c', e = .returned (.slice A' (capd (val ds)).length c') ∧ VRow w A' (capd (val ds)).length (nats (capd (val ds))) ∧ (A' = none → c' = 0)) ∧ w' = w := by
 have hl : ds.length = n := by simpa [nats_len] using hA.1
 have hlen : (dig (val ds)).length ≤ 9223372036854775807 := by
   have h3 := dig_le_len hd
   unfold maxLen at hc
   omega
 have hcut := hA.take (m := (dig (val ds)).length) (by have h3 := dig_le_len hd; omega)
 rw [nats_take, take_dig hd] at hcut
 have HA := Lib.hid hA
 have HC := Lib.hid hcut
 have HD := Lib.hid hd
 have HI := Lib.hid (And.intro hnc (And.intro hc hnil))
 clear hA hd hcut hl hnc hc hnil
 go_enter Tryz.func122, Tryz.ntmps122
 go_wp2_with fail
 refine (l02Trim_any A n c ds w HA.out HD.out HI.out.1 HI.out.2.1 HI.out.2.2).mono ?_
 rintro e w1 ⟨rfl, rfl⟩
 have HK := Lib.hid (show capd (val ds) = if (dig (val ds)).length ≤ 60 then dig (val ds) else [] from rfl)
 by_cases h60 : (dig (val ds)).length ≤ 60
 · have e : capd (val ds) = dig (val ds) := by rw [HK.out, if_pos h60]
   have HE := Lib.hid e
   clear e
   obtain ⟨m, hm⟩ : ∃ m, (dig (val ds)).length = m := ⟨_, rfl⟩
   rw [hm] at h60 hlen ⊢
   have HM := Lib.hid hm
   clear hm
   go_wp2
   go_ret
   refine ⟨⟨A, c, ?_, ?_, HI.out.2.2⟩, rfl⟩
   · rw [HE.out, HM.out]; rfl
   · rw [HE.out]; exact HC.out
 · have e : capd (val ds) = [] := by rw [HK.out, if_neg h60]
   have HE := Lib.hid e
   clear e
   obtain ⟨m, hm⟩ : ∃ m, (dig (val ds)).length = m := ⟨_, rfl⟩
   rw [hm] at h60 hlen ⊢
   have HM := Lib.hid hm
   clear hm
   go_wp2
   go_ret
   refine ⟨⟨none, 0, ?_, ?_, fun _ => rfl⟩, rfl⟩
   · rw [HE.out]; rfl
   · rw [HE.out]; exact VRow.empty _ _
set_option maxRecDepth 100000 in
set_option maxHeartbeats 4000000 in
theorem l03Make_any (s : Bool) (A : Option Addr) (n c : Nat) (ds : List Nat) (w : World) (hA : VRow w A n (nats ds)) (hd : Digs ds) (hnc : n ≤ c) (hc : c ≤ maxLen) (hnil : A = none → c = 0) :
   Calls Tryz.prog 98 #[.bool s, .slice A n c] w (OwnRB 3 (sgZ (signed s (val ds))) (nats (magZ (signed s (val ds)))) w) := by
 obtain ⟨i0, hi, hz0, hz1, hz2⟩ := info_parts info_int
 have HSG := Lib.hid (sgZ_signed s (val ds))
 have HMG := Lib.hid (magZ_signed s (val ds))
 have HA := Lib.hid hA
 have HD := Lib.hid hd
 have HI := Lib.hid (And.intro hnc (And.intro hc hnil))
 clear hA hd hnc hc hnil
 go_enter Tryz.func98, Tryz.ntmps98
 have HW := Lib.hid ((Below.refl w.heap.size w).alloc (Nat.le_refl _) (.cells #[.bool false, .slice none 0 0] 35))
 go_wp2_with fail
 refine (l02Cap_row A n c ds _ (HA.out.below HW.out (Nat.le_refl _)) HD.out HI.out.1 HI.out.2.1 HI.out.2.2).mono ?_
 rintro e w1 ⟨⟨A1, c1, rfl, hr, hnil1⟩, rfl⟩
 have hm60 := capd_len (val ds)
 obtain ⟨ms, hms⟩ : ∃ ms, capd (val ds) = ms := ⟨_, rfl⟩
 have HMS := Lib.hid hms
 rw [hms] at hr hm60 ⊢
 clear hms
 obtain ⟨m, hm⟩ : ∃ m, ms.length = m := ⟨_, rfl⟩
 have HM := Lib.hid hm
 rw [hm] at hr hm60 ⊢
 clear hm
 have HR := Lib.hid hr
 have HNL := Lib.hid hnil1
 have HOC := Lib.hid (nats_oneCell ms)
 clear hr hnil1
 have hm1 := World.ownsRow_made (base := w.heap.size + 1) (e := 3) (size := 1) (w.alloc (.cells #[.bool false, .slice none 0 0] 35)) #[] 0 (by simp) (Nat.zero_le _) rfl
 rw [show (w.alloc (.cells #[.bool false, .slice none 0 0] 35)).heap.size = w.heap.size + 1 by simp] at hm1
 have HM1 := Lib.hid hm1
 clear hm1
 have HA1 := Lib.hid (HR.out.below ((Below.refl _ _).alloc (Nat.le_refl _) (.cells #[] 3)) (Nat.le_refl _))
 cases s
 all_goals by_cases h0 : 0 < m
 all_goals
   go_wp2_with (at_builtin; refine wpList_append_row rfl (.tmp 14) (.tmp 15) 33 rfl (w.heap.size + 1) 3 i0 _ 8 Tryz.underlying33 hi hz0 hz1 hz2 rfl _ 0 [] rfl HM1.out A1 m c1 (nats ms) rfl HA1.out HNL.out HOC.out (by unfold maxLen; omega) (by omega) (by simp) ?_)
 all_goals
   intro v1 w1 hown1 hgrow1
   have hb := ((Below.refl (w.heap.size + 1) (w.alloc (.cells #[.bool false, .slice none 0 0] 35))).alloc (by simp) (.cells #[] 3)).grown hgrow1 (by simp) (fun k hk => by have e9 : w.heap.size + 1 = k := Option.some.inj hk; omega)
   have hd0 : w1.cell? ⟨w.heap.size, 0, none⟩ = some (.bool false) := by rw [hb.cell (by simp)]; simp [go_sem]
   have hd1 : w1.cell? ⟨w.heap.size, 1, none⟩ = some (.slice none 0 0) := by rw [hb.cell (by simp)]; simp [go_sem]
   have hf0 : w1.frozen? ⟨w.heap.size, 0, none⟩ = false := by rw [hb.frozen (by simp)]; simp [go_sem]
   have hf1 : w1.frozen? ⟨w.heap.size, 1, none⟩ = false := by rw [hb.frozen (by simp)]; simp [go_sem]
   have HO1 := Lib.hid (OwnV.of_own hown1)
   obtain ⟨A2, c2, rfl⟩ := HO1.out.shape
   have HL := Lib.hid (nats_len ms)
   have HB1 := Lib.hid (HW.out.trans (hb.mono (by simp)))
   clear hown1 hgrow1 hb
   go_wp2
   refine bodyPost_ret (v := .agg #[.bool _, .slice A2 (nats ms).length c2]) (by simp [results, Tryz.results98, go_sem, hd0, hd1]; rfl) rfl ⟨.slice A2 (nats ms).length c2, ?_, ?_, ?_⟩
   · rw [HSG.out, HMS.out, HM.out]; simp [h0]
   · rw [HMG.out, HMS.out]
     exact ((HO1.out.setBelow (by simp) _).setBelow (by simp) _).based (by omega)
   · exact (HB1.out.setCell (by simp) _).setCell (by simp) _
theorem l03Make_at (s : Bool) (A : Option Addr) (n c : Nat) (ds : List Nat) (z : Int) (hz : signed s (val ds) = z) (w : World) (hA : VRow w A n (nats ds)) (hd : Digs ds) (hnc : n ≤ c) (hc : c ≤ maxLen) (hnil : A = none → c = 0) :
   Calls Tryz.prog 98 #[.bool s, .slice A n c] w (OwnRB 3 (sgZ z) (nats (magZ z)) w) := by
 subst hz
 exact l03Make_any s A n c ds w hA hd hnc hc hnil
set_option maxRecDepth 100000 in
set_option maxHeartbeats 1000000 in
theorem bigIntWith_any (s : Bool) (A : Option Addr) (n c : Nat) (w : World) (hn : n ≤ 9223372036854775807) :
   Calls Tryz.prog 111 #[.bool s, .slice A n c] w fun e w' => e = .returned (.agg #[.bool (s && decide (0 < n)), .slice A n c]) ∧ Below w.heap.size w w' := by
 go_enter Tryz.func111, Tryz.ntmps111
 cases s
 all_goals by_cases h0 : 0 < n
 all_goals
   go_wp2
   refine bodyPost_ret (v := .agg #[.bool _, .slice A n c]) (by simp [results, Tryz.results111, go_sem]; rfl) rfl ⟨?_, ?_⟩
   · simp [h0]
   · exact (Below.refl w.heap.size w).alloc (Nat.le_refl _) _
end Go.Proofs.YtaboodioabopnaaGreat
namespace Go.Proofs.YtaboodioabopnaaGreat
open Go.RowKit Nt
set_option linter.unusedVariables false
def cmpS (s t : Bool) (a b : Nat) : Int := if s = true ∧ t = false then -1 else if s = false ∧ t = true then 1 else if s = true then sgn b a else sgn a b
def cmpB (s t : Bool) (xs ys : List Int) : Int := if okB s xs = true ∧ okB t ys = true then cmpS s t (val (toN xs)) (val (toN ys)) else 0
theorem cmpB_yes {s t : Bool} {xs ys : List Int} (h1 : okB s xs = true) (h2 : okB t ys = true) : cmpB s t xs ys = cmpS s t (val (toN xs)) (val (toN ys)) := if_pos ⟨h1, h2⟩
theorem cmpB_no {s t : Bool} {xs ys : List Int} (h : okB s xs = false ∨ okB t ys = false) : cmpB s t xs ys = 0 := if_neg (by rintro ⟨h1, h2⟩; rcases h with h | h <;> simp_all)
theorem below_al2 {w u : World} {o : Obj} (h : Below w.heap.size w u) : Below w.heap.size w (u.alloc o) := h.alloc h.size o
set_option maxRecDepth 100000 in
set_option maxHeartbeats 4000000 in
theorem bigIntCmp_impl (s t : Bool) (A B : Option Addr) (n c m d : Nat) (xs ys : List Int) (w : World) (hA : VRow w A n (ints xs)) (hB : VRow w B m (ints ys)) (hn : n ≤ maxLen) (hm : m ≤ maxLen) :
   Calls Tryz.prog 121 #[.agg #[.bool s, .slice A n c], .agg #[.bool t, .slice B m d]] w fun e w' => e = .returned (.int .i64 (cmpB s t xs ys)) ∧ Below w.heap.size w w' := by
 have HA := Lib.hid hA
 have HB := Lib.hid hB
 have HN := Lib.hid hn
 have HM := Lib.hid hm
 have HL := Lib.hid (show xs.length = n by simpa [ints] using hA.1)
 have HL2 := Lib.hid (show ys.length = m by simpa [ints] using hB.1)
 clear hA hB hn hm
 go_enter Tryz.func121, Tryz.ntmps121
 have HB_0 := Lib.hid (((Below.refl w.heap.size w).alloc (Nat.le_refl _) (.cells #[.bool s, .slice A n c] 35)).alloc (by simp) (.cells #[.bool t, .slice B m d] 35))
 have K0_0 := Lib.hid ((Held.new_at w (w.heap.size) (.bool s) (.slice A n c) 35 (by first | rfl | simp)).alloc (.cells #[.bool t, .slice B m d] 35))
 have K1_0 := Lib.hid (Held.new_at (w.alloc (.cells #[.bool s, .slice A n c] 35)) (w.heap.size + 1) (.bool t) (.slice B m d) 35 (by first | rfl | simp))
 have hne01 : w.heap.size ≠ w.heap.size + 1 := by omega
 have hne10 : w.heap.size + 1 ≠ w.heap.size := by omega
 go_upto_region 1 with fail
 go_cut [5, 6] (fun p q wx => ∃ b5 b6, p = .pointer (some ⟨b5, 0, none⟩) ∧ q = .pointer (some ⟨b6, 0, none⟩) ∧ Held wx b5 (.slice A n c) (.bool s) ∧ Held wx b6 (.slice B m d) (.bool t) ∧ Below w.heap.size w wx)
 case first =>
   go_region_held3 (fun w' => w'.cell? ⟨w.heap.size, 0, none⟩ = some (.bool s) ∧ w'.cell? ⟨w.heap.size, 1, none⟩ = some (.slice A n c) ∧ w'.cell? ⟨w.heap.size + 1, 0, none⟩ = some (.bool t) ∧ w'.cell? ⟨w.heap.size + 1, 1, none⟩ = some (.slice B m d)) (simp [go_sem])
     (first
       | (go_at_call_of 113 (Value.agg #[Value.bool s, Value.slice A n c]); refine (signedOf_at s A n c _).mono ?_; rintro e w1 ⟨rfl, rfl⟩)
       | (go_at_call_of 113 (Value.agg #[Value.bool t, Value.slice B m d]); refine (signedOf_at t B m d _).mono ?_; rintro e w1 ⟨rfl, rfl⟩))
   all_goals go_wp2_with fail
   all_goals go_meet
   all_goals refine ⟨_, _, rfl, rfl, ?_, ?_, ?_⟩
   all_goals first | (refine Held.mk ?_ ?_ ?_ ?_ ?_ <;> first | (simp [go_sem]; done) | (simp; omega)) | (refine Below.drew ?_; (iterate 8 apply below_al2); exact Below.refl _ _)
 obtain ⟨b5, b6, rfl, rfl, h5, h6, hbw⟩ := hcut
 clear K0_0 K1_0 HB_0
 have K0_0 := Lib.hid h5
 have K1_0 := Lib.hid h6
 have HB_0 := Lib.hid hbw
 clear h5 h6 hbw
 have hk0c0_0 := K0_0.out.c0
 have hk0c1_0 := K0_0.out.c1
 go_wp2_with fail
 refine (isValid_any s A n c xs _ (HA.out.below HB_0.out (Nat.le_refl _)) HN.out).mono ?_
 rintro e w0 ⟨rfl, hb⟩
 have K0_1 := Lib.hid (K0_0.out.after hb)
 have K1_1 := Lib.hid (K1_0.out.after hb)
 have HB_1 := Lib.hid (HB_0.out.trans (hb.mono HB_0.out.size))
 clear hb
 by_cases hok : okB s xs = true
 · rw [hok]
   have hk1c0_1 := K1_1.out.c0
   have hk1c1_1 := K1_1.out.c1
   go_wp2_with fail
   refine (isValid_any t B m d ys _ (HB.out.below HB_1.out (Nat.le_refl _)) HM.out).mono ?_
   rintro e w01 ⟨rfl, hb⟩
   have K0_2 := Lib.hid (K0_1.out.after hb)
   have K1_2 := Lib.hid (K1_1.out.after hb)
   have HB_2 := Lib.hid (HB_1.out.trans (hb.mono HB_1.out.size))
   clear hb
   clear hk1c0_1
   clear hk1c1_1
   by_cases hok2 : okB t ys = true
   · rw [hok2]
     obtain ⟨hex, hcanx, hl60x⟩ := okI_nats (okB_ok hok)
     have hlenx : n ≤ 60 := by have h1 := HL.out; rw [toN_len] at hl60x; omega
     have HAn := Lib.hid (hex ▸ HA.out)
     have HCx := Lib.hid hcanx
     clear hex hcanx hl60x
     obtain ⟨hey, hcany, hl60y⟩ := okI_nats (okB_ok hok2)
     have hleny : m ≤ 60 := by have h1 := HL2.out; rw [toN_len] at hl60y; omega
     have HBn := Lib.hid (hey ▸ HB.out)
     have HCy := Lib.hid hcany
     clear hey hcany hl60y
     have HCB := Lib.hid (cmpB_yes hok hok2)
     have HOK := Lib.hid hok
     have HOK2 := Lib.hid hok2
     clear hok hok2
     have HCA := Lib.hid (show cmpI xs ys = sgn (val (toN xs)) (val (toN ys)) from if_pos ⟨okB_ok HOK.out, okB_ok HOK2.out⟩)
     have HCC := Lib.hid (show cmpI ys xs = sgn (val (toN ys)) (val (toN xs)) from if_pos ⟨okB_ok HOK2.out, okB_ok HOK.out⟩)
     have hk0c0_2 := K0_2.out.c0
     have hk0c1_2 := K0_2.out.c1
     have hk1c0_2 := K1_2.out.c0
     have hk1c1_2 := K1_2.out.c1
     cases s <;> cases t
     · go_wp2_with fail
       refine (magCmp_any A B n c m d xs ys _ (HA.out.below HB_2.out (Nat.le_refl _)) (HB.out.below HB_2.out (Nat.le_refl _)) HN.out HM.out).mono ?_
       rintro e w02 ⟨rfl, hb⟩
       have K0_3 := Lib.hid (K0_2.out.after hb)
       have K1_3 := Lib.hid (K1_2.out.after hb)
       have HB_3 := Lib.hid (HB_2.out.trans (hb.mono HB_2.out.size))
       clear hb
       clear hk0c0_2
       clear hk0c1_2
       clear hk1c0_2
       clear hk1c1_2
       rw [HCA.out]
       have HC := Lib.hid (show cmpB false false xs ys = sgn (val (toN xs)) (val (toN ys)) from HCB.out)
       rw [← HC.out]
       obtain ⟨q, hq⟩ : ∃ q, cmpB false false xs ys = q := ⟨_, rfl⟩
       have HQ := Lib.hid hq
       rw [hq]
       clear hq
       go_wp2
       go_ret
       exact ⟨by rw [HQ.out]; rfl, HB_3.out⟩
     · go_wp2
       go_ret
       exact ⟨by rw [HCB.out]; rfl, HB_2.out⟩
     · go_wp2
       go_ret
       exact ⟨by rw [HCB.out]; rfl, HB_2.out⟩
     · go_wp2_with fail
       refine (magCmp_any B A m d n c ys xs _ (HB.out.below HB_2.out (Nat.le_refl _)) (HA.out.below HB_2.out (Nat.le_refl _)) HM.out HN.out).mono ?_
       rintro e w02 ⟨rfl, hb⟩
       have K0_3 := Lib.hid (K0_2.out.after hb)
       have K1_3 := Lib.hid (K1_2.out.after hb)
       have HB_3 := Lib.hid (HB_2.out.trans (hb.mono HB_2.out.size))
       clear hb
       clear hk0c0_2
       clear hk0c1_2
       clear hk1c0_2
       clear hk1c1_2
       rw [HCC.out]
       have HC := Lib.hid (show cmpB true true xs ys = sgn (val (toN ys)) (val (toN xs)) from HCB.out)
       rw [← HC.out]
       obtain ⟨q, hq⟩ : ∃ q, cmpB true true xs ys = q := ⟨_, rfl⟩
       have HQ := Lib.hid hq
       rw [hq]
       clear hq
       go_wp2
       go_ret
       exact ⟨by rw [HQ.out]; rfl, HB_3.out⟩
   · rw [Bool.not_eq_true] at hok2
     rw [hok2]
     have HC0 := Lib.hid (cmpB_no (s := s) (t := t) (xs := xs) (ys := ys) (.inr hok2))
     clear hok2
     go_wp2
     go_ret
     exact ⟨by rw [HC0.out]; rfl, HB_2.out⟩
 · rw [Bool.not_eq_true] at hok
   rw [hok]
   have HC0 := Lib.hid (cmpB_no (s := s) (t := t) (xs := xs) (ys := ys) (.inl hok))
   clear hok
   go_wp2
   go_ret
   exact ⟨by rw [HC0.out]; rfl, HB_1.out⟩
end Go.Proofs.YtaboodioabopnaaGreat
namespace Go.Proofs.YtaboodioabopnaaGreat
open Go.RowKit Nt
set_option linter.unusedVariables false
set_option maxRecDepth 100000 in
set_option maxHeartbeats 4000000 in
theorem l03Add_same (s : Bool) (A B : Option Addr) (n c m d : Nat) (ds es : List Nat) (w : World) (hA : VRow w A n (nats ds)) (hB : VRow w B m (nats es)) (hds : Canon ds) (hes : Canon es) (hn : n ≤ 60) (hm : m ≤ 60) :
   Calls Tryz.prog 100 #[.agg #[.bool s, .slice A n c], .agg #[.bool s, .slice B m d]] w (OwnRB 3 (sgZ (signed s (val ds) + signed s (val es))) (nats (magZ (signed s (val ds) + signed s (val es)))) w) := by
 obtain ⟨z, hz⟩ : ∃ z, signed s (val ds) + signed s (val es) = z := ⟨_, rfl⟩
 rw [hz]
 have HZ := Lib.hid hz
 clear hz
 have HA := Lib.hid hA
 have HB := Lib.hid hB
 have HD := Lib.hid hds
 have HE := Lib.hid hes
 clear hA hB hds hes
 go_enter Tryz.func100, Tryz.ntmps100
 have HB_0 := Lib.hid ((((Below.refl w.heap.size w).alloc (Nat.le_refl _) (.cells #[.bool s, .slice A n c] 35)).alloc (by simp) (.cells #[.bool s, .slice B m d] 35)).alloc (by simp; omega) (.cells #[.bool false, .slice none 0 0] 35))
 have K0_0 := Lib.hid (((Held.new_at w (w.heap.size) (.bool s) (.slice A n c) 35 (by first | rfl | simp)).alloc (.cells #[.bool s, .slice B m d] 35)).alloc (.cells #[.bool false, .slice none 0 0] 35))
 have K1_0 := Lib.hid ((Held.new_at (w.alloc (.cells #[.bool s, .slice A n c] 35)) (w.heap.size + 1) (.bool s) (.slice B m d) 35 (by first | rfl | simp)).alloc (.cells #[.bool false, .slice none 0 0] 35))
 have K2_0 := Lib.hid (Held.new_at ((w.alloc (.cells #[.bool s, .slice A n c] 35)).alloc (.cells #[.bool s, .slice B m d] 35)) (w.heap.size + 1 + 1) (.bool false) (.slice none 0 0) 35 (by first | rfl | simp))
 have hne01 : w.heap.size ≠ w.heap.size + 1 := by omega
 have hne02 : w.heap.size ≠ w.heap.size + 1 + 1 := by omega
 have hne10 : w.heap.size + 1 ≠ w.heap.size := by omega
 have hne12 : w.heap.size + 1 ≠ w.heap.size + 1 + 1 := by omega
 have hne20 : w.heap.size + 1 + 1 ≠ w.heap.size := by omega
 have hne21 : w.heap.size + 1 + 1 ≠ w.heap.size + 1 := by omega
 go_wp2
 go_region_held3 (fun w' => w'.cell? ⟨w.heap.size, 0, none⟩ = some (.bool s) ∧ w'.cell? ⟨w.heap.size, 1, none⟩ = some (.slice A n c) ∧ w'.cell? ⟨w.heap.size + 1, 1, none⟩ = some (.slice B m d)) (go_keep)
   (first
     | (go_at_call 123
        refine (l02Add_any A B n c m d ds es _ ?_ ?_ HD.out.1 HE.out.1 ?_ ?_).mono ?_
        exact (HA.out.below HB_0.out.drew (Nat.le_refl _))
        exact (HB.out.below HB_0.out.drew (Nat.le_refl _))
        omega
        omega
        rintro e w1 ⟨rs, hrs, hv, v, rfl, ho, hb⟩
        obtain ⟨A1, c1, rfl⟩ := ho.shape
        have HRS := Lib.hid hrs
        have HRV := Lib.hid hv
        have HO1 := Lib.hid ho
        clear hrs hv ho
        have K0_1 := Lib.hid (K0_0.out.drew.after hb)
        have K1_1 := Lib.hid (K1_0.out.drew.after hb)
        have K2_1 := Lib.hid (K2_0.out.drew.after hb)
        have HB_1 := Lib.hid (HB_0.out.drew.trans (hb.mono HB_0.out.drew.size))
        clear hb
        have hk0c0_1 := K0_1.out.c0
        have hk0c1_1 := K0_1.out.c1
        have hk1c1_1 := K1_1.out.c1)
     | (go_at_call 98
        refine (l03Make_at s A1 _ c1 rs z (by rw [HRV.out, signed_add]; exact HZ.out) _ HO1.out.row HRS.out HO1.out.cap.1 HO1.out.cap.2 HO1.out.nil_cap).mono ?_
        rintro e w9 ⟨v9, rfl, ho9, hb⟩
        obtain ⟨A9, c9, rfl⟩ := ho9.shape
        have HO9 := Lib.hid ho9
        clear ho9
        have K0_2 := Lib.hid (K0_1.out.after hb)
        have K1_2 := Lib.hid (K1_1.out.after hb)
        have K2_2 := Lib.hid (K2_1.out.after hb)
        have H1_2 := Lib.hid (OwnV.below (w := w1) HO1.out hb)
        have HB_2 := Lib.hid (HB_1.out.trans (hb.mono HB_1.out.size))
        clear hb
        have hk0c0_2 := K0_2.out.c0
        have hk0c1_2 := K0_2.out.c1
        have hk1c1_2 := K1_2.out.c1
        have hk2c0_2 := K2_2.out.c0
        have hk2c1_2 := K2_2.out.c1
        have hk2f0_2 := K2_2.out.f0
        have hk2f1_2 := K2_2.out.f1))
 go_wp2
 have hr0 := K2_2.out.c0
 have hr1 := K2_2.out.c1
 exact bodyPost_ret (v := .agg #[.bool (sgZ z), .slice A9 (nats (magZ z)).length c9]) (by simp [results, Tryz.results100, go_sem, hr0, hr1]) rfl (ownRB_close HB_2.out HO9.out K2_1.out.lt (by omega))
set_option maxRecDepth 100000 in
set_option maxHeartbeats 4000000 in
theorem l03Add_true (A B : Option Addr) (n c m d : Nat) (ds es : List Nat) (w : World) (hA : VRow w A n (nats ds)) (hB : VRow w B m (nats es)) (hds : Canon ds) (hes : Canon es) (hn : n ≤ 60) (hm : m ≤ 60) :
   Calls Tryz.prog 100 #[.agg #[.bool true, .slice A n c], .agg #[.bool false, .slice B m d]] w (OwnRB 3 (sgZ (signed true (val ds) + signed false (val es))) (nats (magZ (signed true (val ds) + signed false (val es)))) w) := by
 obtain ⟨z, hz⟩ : ∃ z, signed true (val ds) + signed false (val es) = z := ⟨_, rfl⟩
 rw [hz]
 have HZ := Lib.hid hz
 clear hz
 have hl : ds.length = n := by simpa [nats_len] using hA.1
 have hl2 : es.length = m := by simpa [nats_len] using hB.1
 have HLE := Lib.hid (show val es ≤ val ds → m ≤ n by intro h; have := canon_len hes hds.1 h; omega)
 have HGE := Lib.hid (show val ds < val es → n ≤ m by intro h; have := canon_len hds hes.1 (Nat.le_of_lt h); omega)
 clear hl hl2
 have HA := Lib.hid hA
 have HB := Lib.hid hB
 have HD := Lib.hid hds
 have HE := Lib.hid hes
 clear hA hB hds hes
 go_enter Tryz.func100, Tryz.ntmps100
 have HB_0 := Lib.hid ((((Below.refl w.heap.size w).alloc (Nat.le_refl _) (.cells #[.bool true, .slice A n c] 35)).alloc (by simp) (.cells #[.bool false, .slice B m d] 35)).alloc (by simp; omega) (.cells #[.bool false, .slice none 0 0] 35))
 have K0_0 := Lib.hid (((Held.new_at w (w.heap.size) (.bool true) (.slice A n c) 35 (by first | rfl | simp)).alloc (.cells #[.bool false, .slice B m d] 35)).alloc (.cells #[.bool false, .slice none 0 0] 35))
 have K1_0 := Lib.hid ((Held.new_at (w.alloc (.cells #[.bool true, .slice A n c] 35)) (w.heap.size + 1) (.bool false) (.slice B m d) 35 (by first | rfl | simp)).alloc (.cells #[.bool false, .slice none 0 0] 35))
 have K2_0 := Lib.hid (Held.new_at ((w.alloc (.cells #[.bool true, .slice A n c] 35)).alloc (.cells #[.bool false, .slice B m d] 35)) (w.heap.size + 1 + 1) (.bool false) (.slice none 0 0) 35 (by first | rfl | simp))
 have hne01 : w.heap.size ≠ w.heap.size + 1 := by omega
 have hne02 : w.heap.size ≠ w.heap.size + 1 + 1 := by omega
 have hne10 : w.heap.size + 1 ≠ w.heap.size := by omega
 have hne12 : w.heap.size + 1 ≠ w.heap.size + 1 + 1 := by omega
 have hne20 : w.heap.size + 1 + 1 ≠ w.heap.size := by omega
 have hne21 : w.heap.size + 1 + 1 ≠ w.heap.size + 1 := by omega
 go_wp2_with fail
 refine (l02Cmp_any A B n c m d ds es _ (HA.out.below HB_0.out (Nat.le_refl _)) (HB.out.below HB_0.out (Nat.le_refl _)) HD.out HE.out (by unfold maxLen; omega) (by unfold maxLen; omega)).mono ?_
 rintro e w0 ⟨rfl, hb⟩
 have K0_1 := Lib.hid (K0_0.out.after hb)
 have K1_1 := Lib.hid (K1_0.out.after hb)
 have K2_1 := Lib.hid (K2_0.out.after hb)
 have HB_1 := Lib.hid (HB_0.out.trans (hb.mono HB_0.out.size))
 clear hb
 have hk0c0_1 := K0_1.out.c0
 have hk0c1_1 := K0_1.out.c1
 have hk1c0_1 := K1_1.out.c0
 have hk1c1_1 := K1_1.out.c1
 have hk2c0_1 := K2_1.out.c0
 have hk2c1_1 := K2_1.out.c1
 have hk2f0_1 := K2_1.out.f0
 have hk2f1_1 := K2_1.out.f1
 by_cases hge : val es ≤ val ds
 · obtain ⟨q, hq⟩ : ∃ q : Int, sgn (val ds) (val es) = q := ⟨_, rfl⟩
   have hq0 : 0 ≤ q := by rw [← hq]; unfold sgn; split; omega; split <;> omega
   have hq1 : ¬ q < 0 := by omega
   rw [hq]
   clear hq
   have HGV := Lib.hid hge
   clear hge
   go_wp2
   go_region_held3 (fun w' => w'.cell? ⟨w.heap.size, 0, none⟩ = some (.bool true) ∧ w'.cell? ⟨w.heap.size, 1, none⟩ = some (.slice A n c) ∧ w'.cell? ⟨w.heap.size + 1, 1, none⟩ = some (.slice B m d)) (go_keep)
     (first
       | (go_at_call 125
          refine (l02Sub_any A B n c m d ds es _ ?_ ?_ HD.out.1 HE.out.1 ?_ ?_ ?_).mono ?_
          exact (HA.out.below HB_1.out.drew (Nat.le_refl _))
          exact (HB.out.below HB_1.out.drew (Nat.le_refl _))
          exact HLE.out HGV.out
          exact HGV.out
          omega
          rintro e w1 ⟨v, rfl, ho, hb⟩
          obtain ⟨A1, c1, rfl⟩ := ho.shape
          have HRS := Lib.hid (dig_can (val ds - val es)).1
          have HO1 := Lib.hid ho
          clear ho
          have K0_2 := Lib.hid (K0_1.out.drew.after hb)
          have K1_2 := Lib.hid (K1_1.out.drew.after hb)
          have K2_2 := Lib.hid (K2_1.out.drew.after hb)
          have HB_2 := Lib.hid (HB_1.out.drew.trans (hb.mono HB_1.out.drew.size))
          clear hb
          have hk0c0_2 := K0_2.out.c0
          have hk0c1_2 := K0_2.out.c1
          have hk1c1_2 := K1_2.out.c1)
       | (go_at_call 98
          refine (l03Make_at true A1 _ c1 _ z (by rw [val_dig, signed_sub _ _ _ HGV.out]; exact HZ.out) _ HO1.out.row HRS.out HO1.out.cap.1 HO1.out.cap.2 HO1.out.nil_cap).mono ?_
          rintro e w9 ⟨v9, rfl, ho9, hb⟩
          obtain ⟨A9, c9, rfl⟩ := ho9.shape
          have HO9 := Lib.hid ho9
          clear ho9
          have K0_3 := Lib.hid (K0_2.out.after hb)
          have K1_3 := Lib.hid (K1_2.out.after hb)
          have K2_3 := Lib.hid (K2_2.out.after hb)
          have H1_3 := Lib.hid (OwnV.below (w := w1) HO1.out hb)
          have HB_3 := Lib.hid (HB_2.out.trans (hb.mono HB_2.out.size))
          clear hb
          have hk0c0_3 := K0_3.out.c0
          have hk0c1_3 := K0_3.out.c1
          have hk1c1_3 := K1_3.out.c1
          have hk2c0_3 := K2_3.out.c0
          have hk2c1_3 := K2_3.out.c1
          have hk2f0_3 := K2_3.out.f0
          have hk2f1_3 := K2_3.out.f1))
   go_wp2
   have hr0 := K2_3.out.c0
   have hr1 := K2_3.out.c1
   exact bodyPost_ret (v := .agg #[.bool (sgZ z), .slice A9 (nats (magZ z)).length c9]) (by simp [results, Tryz.results100, go_sem, hr0, hr1]) rfl (ownRB_close HB_3.out HO9.out K2_2.out.lt (by omega))
 · have hlt : val ds < val es := by omega
   rw [sgn_lt hlt]
   have HGV := Lib.hid hlt
   clear hlt hge
   go_wp2
   go_region_held3 (fun w' => w'.cell? ⟨w.heap.size + 1, 0, none⟩ = some (.bool false) ∧ w'.cell? ⟨w.heap.size + 1, 1, none⟩ = some (.slice B m d) ∧ w'.cell? ⟨w.heap.size, 1, none⟩ = some (.slice A n c)) (go_keep)
     (first
       | (go_at_call 125
          refine (l02Sub_any B A m d n c es ds _ ?_ ?_ HE.out.1 HD.out.1 ?_ ?_ ?_).mono ?_
          exact (HB.out.below HB_1.out.drew (Nat.le_refl _))
          exact (HA.out.below HB_1.out.drew (Nat.le_refl _))
          exact HGE.out HGV.out
          exact Nat.le_of_lt HGV.out
          omega
          rintro e w1 ⟨v, rfl, ho, hb⟩
          obtain ⟨A1, c1, rfl⟩ := ho.shape
          have HRS := Lib.hid (dig_can (val es - val ds)).1
          have HO1 := Lib.hid ho
          clear ho
          have K0_2 := Lib.hid (K0_1.out.drew.after hb)
          have K1_2 := Lib.hid (K1_1.out.drew.after hb)
          have K2_2 := Lib.hid (K2_1.out.drew.after hb)
          have HB_2 := Lib.hid (HB_1.out.drew.trans (hb.mono HB_1.out.drew.size))
          clear hb
          have hk1c0_2 := K1_2.out.c0
          have hk1c1_2 := K1_2.out.c1
          have hk0c1_2 := K0_2.out.c1)
       | (go_at_call 98
          refine (l03Make_at false A1 _ c1 _ z (by rw [val_dig, signed_sub _ _ _ (Nat.le_of_lt HGV.out), Int.add_comm]; exact HZ.out) _ HO1.out.row HRS.out HO1.out.cap.1 HO1.out.cap.2 HO1.out.nil_cap).mono ?_
          rintro e w9 ⟨v9, rfl, ho9, hb⟩
          obtain ⟨A9, c9, rfl⟩ := ho9.shape
          have HO9 := Lib.hid ho9
          clear ho9
          have K0_3 := Lib.hid (K0_2.out.after hb)
          have K1_3 := Lib.hid (K1_2.out.after hb)
          have K2_3 := Lib.hid (K2_2.out.after hb)
          have H1_3 := Lib.hid (OwnV.below (w := w1) HO1.out hb)
          have HB_3 := Lib.hid (HB_2.out.trans (hb.mono HB_2.out.size))
          clear hb
          have hk1c0_3 := K1_3.out.c0
          have hk1c1_3 := K1_3.out.c1
          have hk0c1_3 := K0_3.out.c1
          have hk2c0_3 := K2_3.out.c0
          have hk2c1_3 := K2_3.out.c1
          have hk2f0_3 := K2_3.out.f0
          have hk2f1_3 := K2_3.out.f1))
   go_wp2
   have hr0 := K2_3.out.c0
   have hr1 := K2_3.out.c1
   exact bodyPost_ret (v := .agg #[.bool (sgZ z), .slice A9 (nats (magZ z)).length c9]) (by simp [results, Tryz.results100, go_sem, hr0, hr1]) rfl (ownRB_close HB_3.out HO9.out K2_2.out.lt (by omega))
set_option maxRecDepth 100000 in
set_option maxHeartbeats 4000000 in
theorem l03Add_false (A B : Option Addr) (n c m d : Nat) (ds es : List Nat) (w : World) (hA : VRow w A n (nats ds)) (hB : VRow w B m (nats es)) (hds : Canon ds) (hes : Canon es) (hn : n ≤ 60) (hm : m ≤ 60) :
   Calls Tryz.prog 100 #[.agg #[.bool false, .slice A n c], .agg #[.bool true, .slice B m d]] w (OwnRB 3 (sgZ (signed false (val ds) + signed true (val es))) (nats (magZ (signed false (val ds) + signed true (val es)))) w) := by
 obtain ⟨z, hz⟩ : ∃ z, signed false (val ds) + signed true (val es) = z := ⟨_, rfl⟩
 rw [hz]
 have HZ := Lib.hid hz
 clear hz
 have hl : ds.length = n := by simpa [nats_len] using hA.1
 have hl2 : es.length = m := by simpa [nats_len] using hB.1
 have HLE := Lib.hid (show val es ≤ val ds → m ≤ n by intro h; have := canon_len hes hds.1 h; omega)
 have HGE := Lib.hid (show val ds < val es → n ≤ m by intro h; have := canon_len hds hes.1 (Nat.le_of_lt h); omega)
 clear hl hl2
 have HA := Lib.hid hA
 have HB := Lib.hid hB
 have HD := Lib.hid hds
 have HE := Lib.hid hes
 clear hA hB hds hes
 go_enter Tryz.func100, Tryz.ntmps100
 have HB_0 := Lib.hid ((((Below.refl w.heap.size w).alloc (Nat.le_refl _) (.cells #[.bool false, .slice A n c] 35)).alloc (by simp) (.cells #[.bool true, .slice B m d] 35)).alloc (by simp; omega) (.cells #[.bool false, .slice none 0 0] 35))
 have K0_0 := Lib.hid (((Held.new_at w (w.heap.size) (.bool false) (.slice A n c) 35 (by first | rfl | simp)).alloc (.cells #[.bool true, .slice B m d] 35)).alloc (.cells #[.bool false, .slice none 0 0] 35))
 have K1_0 := Lib.hid ((Held.new_at (w.alloc (.cells #[.bool false, .slice A n c] 35)) (w.heap.size + 1) (.bool true) (.slice B m d) 35 (by first | rfl | simp)).alloc (.cells #[.bool false, .slice none 0 0] 35))
 have K2_0 := Lib.hid (Held.new_at ((w.alloc (.cells #[.bool false, .slice A n c] 35)).alloc (.cells #[.bool true, .slice B m d] 35)) (w.heap.size + 1 + 1) (.bool false) (.slice none 0 0) 35 (by first | rfl | simp))
 have hne01 : w.heap.size ≠ w.heap.size + 1 := by omega
 have hne02 : w.heap.size ≠ w.heap.size + 1 + 1 := by omega
 have hne10 : w.heap.size + 1 ≠ w.heap.size := by omega
 have hne12 : w.heap.size + 1 ≠ w.heap.size + 1 + 1 := by omega
 have hne20 : w.heap.size + 1 + 1 ≠ w.heap.size := by omega
 have hne21 : w.heap.size + 1 + 1 ≠ w.heap.size + 1 := by omega
 go_wp2_with fail
 refine (l02Cmp_any A B n c m d ds es _ (HA.out.below HB_0.out (Nat.le_refl _)) (HB.out.below HB_0.out (Nat.le_refl _)) HD.out HE.out (by unfold maxLen; omega) (by unfold maxLen; omega)).mono ?_
 rintro e w0 ⟨rfl, hb⟩
 have K0_1 := Lib.hid (K0_0.out.after hb)
 have K1_1 := Lib.hid (K1_0.out.after hb)
 have K2_1 := Lib.hid (K2_0.out.after hb)
 have HB_1 := Lib.hid (HB_0.out.trans (hb.mono HB_0.out.size))
 clear hb
 have hk0c0_1 := K0_1.out.c0
 have hk0c1_1 := K0_1.out.c1
 have hk1c0_1 := K1_1.out.c0
 have hk1c1_1 := K1_1.out.c1
 have hk2c0_1 := K2_1.out.c0
 have hk2c1_1 := K2_1.out.c1
 have hk2f0_1 := K2_1.out.f0
 have hk2f1_1 := K2_1.out.f1
 by_cases hge : val es ≤ val ds
 · obtain ⟨q, hq⟩ : ∃ q : Int, sgn (val ds) (val es) = q := ⟨_, rfl⟩
   have hq0 : 0 ≤ q := by rw [← hq]; unfold sgn; split; omega; split <;> omega
   have hq1 : ¬ q < 0 := by omega
   rw [hq]
   clear hq
   have HGV := Lib.hid hge
   clear hge
   go_wp2
   go_region_held3 (fun w' => w'.cell? ⟨w.heap.size, 0, none⟩ = some (.bool false) ∧ w'.cell? ⟨w.heap.size, 1, none⟩ = some (.slice A n c) ∧ w'.cell? ⟨w.heap.size + 1, 1, none⟩ = some (.slice B m d)) (go_keep)
     (first
       | (go_at_call 125
          refine (l02Sub_any A B n c m d ds es _ ?_ ?_ HD.out.1 HE.out.1 ?_ ?_ ?_).mono ?_
          exact (HA.out.below HB_1.out.drew (Nat.le_refl _))
          exact (HB.out.below HB_1.out.drew (Nat.le_refl _))
          exact HLE.out HGV.out
          exact HGV.out
          omega
          rintro e w1 ⟨v, rfl, ho, hb⟩
          obtain ⟨A1, c1, rfl⟩ := ho.shape
          have HRS := Lib.hid (dig_can (val ds - val es)).1
          have HO1 := Lib.hid ho
          clear ho
          have K0_2 := Lib.hid (K0_1.out.drew.after hb)
          have K1_2 := Lib.hid (K1_1.out.drew.after hb)
          have K2_2 := Lib.hid (K2_1.out.drew.after hb)
          have HB_2 := Lib.hid (HB_1.out.drew.trans (hb.mono HB_1.out.drew.size))
          clear hb
          have hk0c0_2 := K0_2.out.c0
          have hk0c1_2 := K0_2.out.c1
          have hk1c1_2 := K1_2.out.c1)
       | (go_at_call 98
          refine (l03Make_at false A1 _ c1 _ z (by rw [val_dig, signed_sub _ _ _ HGV.out]; exact HZ.out) _ HO1.out.row HRS.out HO1.out.cap.1 HO1.out.cap.2 HO1.out.nil_cap).mono ?_
          rintro e w9 ⟨v9, rfl, ho9, hb⟩
          obtain ⟨A9, c9, rfl⟩ := ho9.shape
          have HO9 := Lib.hid ho9
          clear ho9
          have K0_3 := Lib.hid (K0_2.out.after hb)
          have K1_3 := Lib.hid (K1_2.out.after hb)
          have K2_3 := Lib.hid (K2_2.out.after hb)
          have H1_3 := Lib.hid (OwnV.below (w := w1) HO1.out hb)
          have HB_3 := Lib.hid (HB_2.out.trans (hb.mono HB_2.out.size))
          clear hb
          have hk0c0_3 := K0_3.out.c0
          have hk0c1_3 := K0_3.out.c1
          have hk1c1_3 := K1_3.out.c1
          have hk2c0_3 := K2_3.out.c0
          have hk2c1_3 := K2_3.out.c1
          have hk2f0_3 := K2_3.out.f0
          have hk2f1_3 := K2_3.out.f1))
   go_wp2
   have hr0 := K2_3.out.c0
   have hr1 := K2_3.out.c1
   exact bodyPost_ret (v := .agg #[.bool (sgZ z), .slice A9 (nats (magZ z)).length c9]) (by simp [results, Tryz.results100, go_sem, hr0, hr1]) rfl (ownRB_close HB_3.out HO9.out K2_2.out.lt (by omega))
 · have hlt : val ds < val es := by omega
   rw [sgn_lt hlt]
   have HGV := Lib.hid hlt
   clear hlt hge
   go_wp2
   go_region_held3 (fun w' => w'.cell? ⟨w.heap.size + 1, 0, none⟩ = some (.bool true) ∧ w'.cell? ⟨w.heap.size + 1, 1, none⟩ = some (.slice B m d) ∧ w'.cell? ⟨w.heap.size, 1, none⟩ = some (.slice A n c)) (go_keep)
     (first
       | (go_at_call 125
          refine (l02Sub_any B A m d n c es ds _ ?_ ?_ HE.out.1 HD.out.1 ?_ ?_ ?_).mono ?_
          exact (HB.out.below HB_1.out.drew (Nat.le_refl _))
          exact (HA.out.below HB_1.out.drew (Nat.le_refl _))
          exact HGE.out HGV.out
          exact Nat.le_of_lt HGV.out
          omega
          rintro e w1 ⟨v, rfl, ho, hb⟩
          obtain ⟨A1, c1, rfl⟩ := ho.shape
          have HRS := Lib.hid (dig_can (val es - val ds)).1
          have HO1 := Lib.hid ho
          clear ho
          have K0_2 := Lib.hid (K0_1.out.drew.after hb)
          have K1_2 := Lib.hid (K1_1.out.drew.after hb)
          have K2_2 := Lib.hid (K2_1.out.drew.after hb)
          have HB_2 := Lib.hid (HB_1.out.drew.trans (hb.mono HB_1.out.drew.size))
          clear hb
          have hk1c0_2 := K1_2.out.c0
          have hk1c1_2 := K1_2.out.c1
          have hk0c1_2 := K0_2.out.c1)
       | (go_at_call 98
          refine (l03Make_at true A1 _ c1 _ z (by rw [val_dig, signed_sub _ _ _ (Nat.le_of_lt HGV.out), Int.add_comm]; exact HZ.out) _ HO1.out.row HRS.out HO1.out.cap.1 HO1.out.cap.2 HO1.out.nil_cap).mono ?_
          rintro e w9 ⟨v9, rfl, ho9, hb⟩
          obtain ⟨A9, c9, rfl⟩ := ho9.shape
          have HO9 := Lib.hid ho9
          clear ho9
          have K0_3 := Lib.hid (K0_2.out.after hb)
          have K1_3 := Lib.hid (K1_2.out.after hb)
          have K2_3 := Lib.hid (K2_2.out.after hb)
          have H1_3 := Lib.hid (OwnV.below (w := w1) HO1.out hb)
          have HB_3 := Lib.hid (HB_2.out.trans (hb.mono HB_2.out.size))
          clear hb
          have hk1c0_3 := K1_3.out.c0
          have hk1c1_3 := K1_3.out.c1
          have hk0c1_3 := K0_3.out.c1
          have hk2c0_3 := K2_3.out.c0
          have hk2c1_3 := K2_3.out.c1
          have hk2f0_3 := K2_3.out.f0
          have hk2f1_3 := K2_3.out.f1))
   go_wp2
   have hr0 := K2_3.out.c0
   have hr1 := K2_3.out.c1
   exact bodyPost_ret (v := .agg #[.bool (sgZ z), .slice A9 (nats (magZ z)).length c9]) (by simp [results, Tryz.results100, go_sem, hr0, hr1]) rfl (ownRB_close HB_3.out HO9.out K2_2.out.lt (by omega))
theorem l03Add_any (s t : Bool) (A B : Option Addr) (n c m d : Nat) (ds es : List Nat) (w : World) (hA : VRow w A n (nats ds)) (hB : VRow w B m (nats es)) (hds : Canon ds) (hes : Canon es) (hn : n ≤ 60) (hm : m ≤ 60) :
   Calls Tryz.prog 100 #[.agg #[.bool s, .slice A n c], .agg #[.bool t, .slice B m d]] w (OwnRB 3 (sgZ (signed s (val ds) + signed t (val es))) (nats (magZ (signed s (val ds) + signed t (val es)))) w) := by
 cases s <;> cases t
 · exact l03Add_same false A B n c m d ds es w hA hB hds hes hn hm
 · exact l03Add_false A B n c m d ds es w hA hB hds hes hn hm
 · exact l03Add_true A B n c m d ds es w hA hB hds hes hn hm
 · exact l03Add_same true A B n c m d ds es w hA hB hds hes hn hm
end Go.Proofs.YtaboodioabopnaaGreat
namespace Go.Proofs.YtaboodioabopnaaGreat
open Go.RowKit Nt
set_option linter.unusedVariables false
theorem int_small {z : Int} (h : -9223372036854775808 ≤ z ∧ z ≤ 9223372036854775807) : z.natAbs < 1000000000 ^ 60 := by
 have h1 : z.natAbs < 1000000000 ^ 4 := by omega
 exact Nat.lt_of_lt_of_le h1 (Nat.pow_le_pow_right (by decide) (by decide))
theorem least_row (w : World) (t : TypeId) : VRow (w.alloc (.cells #[.int .i64 854775808, .int .i64 223372036, .int .i64 9] t)) (some ⟨w.heap.size, 0, none⟩) 3 (nats [854775808, 223372036, 9]) := by
 refine ⟨rfl, fun _ => ⟨w.heap.size, 0, rfl, by simp, fun k hk => ?_⟩⟩
 match k, hk with
 | 0, _ => simp [go_sem, nats, ints]
 | 1, _ => simp [go_sem, nats, ints]
 | 2, _ => simp [go_sem, nats, ints]
theorem least_val : signed true (val [854775808, 223372036, 9]) = -9223372036854775808 := by simp [signed, val]
theorem least_digs : Digs [854775808, 223372036, 9] := by intro d hd; simp at hd; omega
set_option maxRecDepth 100000 in
set_option maxHeartbeats 4000000 in
theorem bigIntOf_spec (a : Int) (w : World) (ha : -9223372036854775808 ≤ a ∧ a ≤ 9223372036854775807) :
   Calls Tryz.prog 64 #[.int .i64 a] w (OwnRB 3 (sgZ a) (nats (magZ a)) w) := by
 by_cases hmin : a = -9223372036854775808
 · subst hmin
   obtain ⟨SG, hSG⟩ : ∃ s, sgZ (-9223372036854775808) = s := ⟨_, rfl⟩
   obtain ⟨MG, hMG⟩ : ∃ l, nats (magZ (-9223372036854775808)) = l := ⟨_, rfl⟩
   rw [hSG, hMG]
   have HSG := Lib.hid hSG
   have HMG := Lib.hid hMG
   clear hSG hMG
   go_enter Tryz.func64, Tryz.ntmps64
   have HB_0 := Lib.hid ((Below.refl w.heap.size w).alloc (Nat.le_refl _) (.cells #[.bool false, .slice none 0 0] 35))
   have K0_0 := Lib.hid (Held.new_at w (w.heap.size) (.bool false) (.slice none 0 0) 35 (by first | rfl | simp))
   go_wp2_with fail
   have hr := least_row (w.alloc (.cells #[.bool false, .slice none 0 0] 35)) 3
   rw [show (w.alloc (.cells #[.bool false, .slice none 0 0] 35)).heap.size = w.heap.size + 1 by simp] at hr
   refine (l03Make_at true (some ⟨w.heap.size + 1, 0, none⟩) 3 3 [854775808, 223372036, 9] (-9223372036854775808) least_val _ hr least_digs (Nat.le_refl _) (by unfold maxLen; omega) (by simp)).mono ?_
   rintro e w9 ⟨v9, rfl, ho9, hb⟩
   rw [HSG.out]
   rw [HMG.out] at ho9
   obtain ⟨A9, c9, rfl⟩ := ho9.shape
   have HO9 := Lib.hid ho9
   clear ho9 hr
   have K0_1 := Lib.hid ((K0_0.out.alloc _).after hb)
   have HB_1 := Lib.hid ((HB_0.out.alloc HB_0.out.size _).trans (hb.mono (by simp; omega)))
   clear hb
   have hk0c0_1 := K0_1.out.c0
   have hk0c1_1 := K0_1.out.c1
   have hk0f0_1 := K0_1.out.f0
   have hk0f1_1 := K0_1.out.f1
   go_wp2
   have hr0 := K0_1.out.c0
   have hr1 := K0_1.out.c1
   exact bodyPost_ret (v := .agg #[.bool SG, .slice A9 MG.length c9]) (by simp [results, Tryz.results64, go_sem, hr0, hr1]) rfl (ownRB_close HB_1.out HO9.out (by simp; omega) (by omega))
 by_cases hneg : a < 0
 · have hlo : -9223372036854775808 < a := by omega
   have HH := Lib.hid (show signed true (val (dig (-a).toNat)) = a by rw [val_dig]; simp [signed]; omega)
   obtain ⟨SG, hSG⟩ : ∃ s, sgZ a = s := ⟨_, rfl⟩
   obtain ⟨MG, hMG⟩ : ∃ l, nats (magZ a) = l := ⟨_, rfl⟩
   rw [hSG, hMG]
   have HSG := Lib.hid hSG
   have HMG := Lib.hid hMG
   clear hSG hMG
   go_enter Tryz.func64, Tryz.ntmps64
   have HB_0 := Lib.hid ((Below.refl w.heap.size w).alloc (Nat.le_refl _) (.cells #[.bool false, .slice none 0 0] 35))
   have K0_0 := Lib.hid (Held.new_at w (w.heap.size) (.bool false) (.slice none 0 0) 35 (by first | rfl | simp))
   go_wp2_with fail
   refine (natOf_spec (-a) _ (by omega)).mono ?_
   rintro e w1 ⟨v, rfl, ho, hb⟩
   obtain ⟨A1, c1, rfl⟩ := ho.shape
   have HO1 := Lib.hid ho
   clear ho
   have K0_1 := Lib.hid (K0_0.out.after hb)
   have HB_1 := Lib.hid (HB_0.out.trans (hb.mono HB_0.out.size))
   clear hb
   go_wp2_with fail
   refine (l03Make_at true A1 _ c1 _ a HH.out _ HO1.out.row (dig_can _).1 HO1.out.cap.1 HO1.out.cap.2 HO1.out.nil_cap).mono ?_
   rintro e w9 ⟨v9, rfl, ho9, hb⟩
   rw [HSG.out]
   rw [HMG.out] at ho9
   obtain ⟨A9, c9, rfl⟩ := ho9.shape
   have HO9 := Lib.hid ho9
   clear ho9
   have K0_2 := Lib.hid (K0_1.out.after hb)
   have HB_2 := Lib.hid (HB_1.out.trans (hb.mono HB_1.out.size))
   clear hb
   have hk0c0_2 := K0_2.out.c0
   have hk0c1_2 := K0_2.out.c1
   have hk0f0_2 := K0_2.out.f0
   have hk0f1_2 := K0_2.out.f1
   go_wp2
   have hr0 := K0_2.out.c0
   have hr1 := K0_2.out.c1
   exact bodyPost_ret (v := .agg #[.bool SG, .slice A9 MG.length c9]) (by simp [results, Tryz.results64, go_sem, hr0, hr1]) rfl (ownRB_close HB_2.out HO9.out K0_1.out.lt (by omega))
 · have hlo : 0 ≤ a := by omega
   have HH := Lib.hid (show signed false (val (dig (a).toNat)) = a by rw [val_dig]; simp [signed]; omega)
   obtain ⟨SG, hSG⟩ : ∃ s, sgZ a = s := ⟨_, rfl⟩
   obtain ⟨MG, hMG⟩ : ∃ l, nats (magZ a) = l := ⟨_, rfl⟩
   rw [hSG, hMG]
   have HSG := Lib.hid hSG
   have HMG := Lib.hid hMG
   clear hSG hMG
   go_enter Tryz.func64, Tryz.ntmps64
   have HB_0 := Lib.hid ((Below.refl w.heap.size w).alloc (Nat.le_refl _) (.cells #[.bool false, .slice none 0 0] 35))
   have K0_0 := Lib.hid (Held.new_at w (w.heap.size) (.bool false) (.slice none 0 0) 35 (by first | rfl | simp))
   go_wp2_with fail
   refine (natOf_spec (a) _ (by omega)).mono ?_
   rintro e w1 ⟨v, rfl, ho, hb⟩
   obtain ⟨A1, c1, rfl⟩ := ho.shape
   have HO1 := Lib.hid ho
   clear ho
   have K0_1 := Lib.hid (K0_0.out.after hb)
   have HB_1 := Lib.hid (HB_0.out.trans (hb.mono HB_0.out.size))
   clear hb
   go_wp2_with fail
   refine (l03Make_at false A1 _ c1 _ a HH.out _ HO1.out.row (dig_can _).1 HO1.out.cap.1 HO1.out.cap.2 HO1.out.nil_cap).mono ?_
   rintro e w9 ⟨v9, rfl, ho9, hb⟩
   rw [HSG.out]
   rw [HMG.out] at ho9
   obtain ⟨A9, c9, rfl⟩ := ho9.shape
   have HO9 := Lib.hid ho9
   clear ho9
   have K0_2 := Lib.hid (K0_1.out.after hb)
   have HB_2 := Lib.hid (HB_1.out.trans (hb.mono HB_1.out.size))
   clear hb
   have hk0c0_2 := K0_2.out.c0
   have hk0c1_2 := K0_2.out.c1
   have hk0f0_2 := K0_2.out.f0
   have hk0f1_2 := K0_2.out.f1
   go_wp2
   have hr0 := K0_2.out.c0
   have hr1 := K0_2.out.c1
   exact bodyPost_ret (v := .agg #[.bool SG, .slice A9 MG.length c9]) (by simp [results, Tryz.results64, go_sem, hr0, hr1]) rfl (ownRB_close HB_2.out HO9.out K0_1.out.lt (by omega))
set_option maxRecDepth 100000 in
set_option maxHeartbeats 4000000 in
theorem bigIntOf_impl (a : Int) (w : World) (ha : -9223372036854775808 ≤ a ∧ a ≤ 9223372036854775807) :
   Calls Tryz.prog 109 #[.int .i64 a] w (OwnRB 3 (sgZ a) (nats (magZ a)) w) := by
 by_cases hpos : 0 ≤ a
 · rw [show sgZ a = false by unfold sgZ; simp; omega]
   have HMG := Lib.hid (show nats (dig a.toNat) = nats (magZ a) by unfold magZ; rw [capd_of (int_small ha)]; congr 2; omega)
   have HSG := Lib.hid (show sgZ a = false by unfold sgZ; simp; omega)
   go_enter Tryz.func109, Tryz.ntmps109
   have HB_0 := Lib.hid ((Below.refl w.heap.size w).alloc (Nat.le_refl _) (.cells #[.bool false, .slice none 0 0] 35))
   have K0_0 := Lib.hid (Held.new_at w (w.heap.size) (.bool false) (.slice none 0 0) 35 (by first | rfl | simp))
   go_wp2_with fail
   refine (natOf_impl a _ (by omega)).mono ?_
   rintro e w9 ⟨v, rfl, ho, hb⟩
   rw [HMG.out] at ho
   obtain ⟨A9, c9, rfl⟩ := ho.shape
   have HO9 := Lib.hid ho
   clear ho
   have K0_1 := Lib.hid (K0_0.out.after hb)
   have HB_1 := Lib.hid (HB_0.out.trans (hb.mono HB_0.out.size))
   clear hb
   have hk0c0_1 := K0_1.out.c0
   have hk0c1_1 := K0_1.out.c1
   have hk0f0_1 := K0_1.out.f0
   have hk0f1_1 := K0_1.out.f1
   go_wp2
   have hr0 := K0_1.out.c0
   have hr1 := K0_1.out.c1
   exact bodyPost_ret (v := .agg #[.bool false, .slice A9 (nats (magZ a)).length c9]) (by simp [results, Tryz.results109, go_sem, hr0, hr1]) rfl (ownRB_close HB_1.out HO9.out K0_0.out.lt (by omega))
 · have hz : a < 0 := by omega
   have hX : (-(a + 1)).toNat < 1000000000 ^ 4 := by omega
   have hok1 := okI_of_nats (dig_can (-(a + 1)).toNat) (Nat.le_trans (dig_len hX) (by decide))
   have hok2 := okI_of_nats (dig_can (1 : Int).toNat) (Nat.le_trans (dig_len (n := (1 : Int).toNat) (k := 1) (by decide)) (by decide))
   have HOK1 := Lib.hid hok1
   have HOK2 := Lib.hid hok2
   have HMG := Lib.hid (show nats (addN ((dig (-(a + 1)).toNat).map fun d : Nat => (d : Int)) ((dig (1 : Int).toNat).map fun d : Nat => (d : Int))) = nats (magZ a) by rw [addN_yes hok1 hok2, toN_nats, toN_nats, val_dig, val_dig]; unfold magZ; congr 2; omega)
   have HSG := Lib.hid (show sgZ a = true by have e : a = signed true a.natAbs := (by simp [signed]; omega); rw [e, sgZ_signed, capd_of (int_small ha)]; have : 0 < (dig a.natAbs).length := List.length_pos_iff.mpr (dig_ne (by omega)); simp [this])
   have hsg := HSG.out
   rw [hsg]
   clear hsg hok1 hok2 hX
   go_enter Tryz.func109, Tryz.ntmps109
   have HB_0 := Lib.hid ((Below.refl w.heap.size w).alloc (Nat.le_refl _) (.cells #[.bool false, .slice none 0 0] 35))
   have K0_0 := Lib.hid (Held.new_at w (w.heap.size) (.bool false) (.slice none 0 0) 35 (by first | rfl | simp))
   go_wp2_with fail
   refine (natOf_impl (-(a + 1)) _ (by omega)).mono ?_
   rintro e w1 ⟨v, rfl, ho, hb⟩
   obtain ⟨A1, c1, rfl⟩ := ho.shape
   have HO1 := Lib.hid ho
   clear ho
   have K0_1 := Lib.hid (K0_0.out.after hb)
   have HB_1 := Lib.hid (HB_0.out.trans (hb.mono HB_0.out.size))
   clear hb
   go_wp2_with fail
   refine (natOf_impl 1 _ (by omega)).mono ?_
   rintro e w2 ⟨v, rfl, ho, hb⟩
   obtain ⟨A2, c2, rfl⟩ := ho.shape
   have HO2 := Lib.hid ho
   clear ho
   have K0_2 := Lib.hid (K0_1.out.after hb)
   have HO1_2 := Lib.hid (OwnV.below (w := w1) HO1.out hb)
   have HB_2 := Lib.hid (HB_1.out.trans (hb.mono HB_1.out.size))
   clear hb
   go_wp2_with fail
   refine (natAdd_impl A1 A2 _ c1 _ c2 _ _ _ HO1_2.out.row HO2.out.row (by have := HO1_2.out.cap; omega) (by have := HO2.out.cap; omega)).mono ?_
   rintro e w9 ⟨v, rfl, ho, hb⟩
   rw [HMG.out] at ho
   obtain ⟨A9, c9, rfl⟩ := ho.shape
   have HO9 := Lib.hid ho
   clear ho
   have K0_3 := Lib.hid (K0_2.out.after hb)
   have HB_3 := Lib.hid (HB_2.out.trans (hb.mono HB_2.out.size))
   clear hb
   have hk0c0_3 := K0_3.out.c0
   have hk0c1_3 := K0_3.out.c1
   have hk0f0_3 := K0_3.out.f0
   have hk0f1_3 := K0_3.out.f1
   go_wp2
   have hr0 := K0_3.out.c0
   have hr1 := K0_3.out.c1
   exact bodyPost_ret (v := .agg #[.bool true, .slice A9 (nats (magZ a)).length c9]) (by simp [results, Tryz.results109, go_sem, hr0, hr1]) rfl (ownRB_close HB_3.out HO9.out K0_2.out.lt (by omega))
end Go.Proofs.YtaboodioabopnaaGreat
namespace Go.Proofs.YtaboodioabopnaaGreat
open Go.RowKit Nt
set_option linter.unusedVariables false
def Arg (w : World) (A : Option Addr) (n c : Nat) (X : List Value) : Prop := VRow w A n X ∧ n ≤ c ∧ c ≤ maxLen ∧ (A = none → c = 0)
theorem Arg.below {w w' : World} {B : Nat} {A : Option Addr} {n c : Nat} {X : List Value} (h : Arg w A n c X) (hb : Below B w w') (hB : w.heap.size ≤ B) : Arg w' A n c X := ⟨h.1.below hb hB, h.2⟩
theorem Arg.max {w : World} {A : Option Addr} {n c : Nat} {X : List Value} (h : Arg w A n c X) : n ≤ maxLen := Nat.le_trans h.2.1 h.2.2.1
theorem OwnV.arg {w : World} {base : Nat} {e : TypeId} {A : Option Addr} {n c : Nat} {X : List Value} (h : OwnV w base e (.slice A n c) X) : Arg w A n c X := ⟨h.row, h.cap.1, h.cap.2, h.nil_cap⟩
theorem Arg.ilen {w : World} {A : Option Addr} {n c : Nat} {xs : List Int} (h : Arg w A n c (ints xs)) : xs.length = n := by simpa [ints] using h.1.1
theorem Arg.nlen {w : World} {A : Option Addr} {n c : Nat} {ds : List Nat} (h : Arg w A n c (nats ds)) : ds.length = n := by simpa [nats_len] using h.1.1
def Valid (ds bs : List Nat) : Prop := Canon ds ∧ Canon bs ∧ ds.length ≤ 24 ∧ bs.length ≤ 24 ∧ 0 < bs.length
def okR (s : Bool) (xs ys : List Int) : Bool := okB s xs && okI ys && decide (0 < ys.length) && decide (ys.length ≤ 24) && decide (xs.length ≤ 24) && decide (Nat.gcd (val (toN xs)) (val (toN ys)) = 1)
def okL (a b : Nat) : Bool := decide (b ≠ 0) && decide ((dig (a / Nat.gcd a b)).length ≤ 24) && decide ((dig (b / Nat.gcd a b)).length ≤ 24)
def loS (z : Int) (b : Nat) : Bool := okL z.natAbs b && decide (z < 0)
def loN (z : Int) (b : Nat) : List Nat := if okL z.natAbs b = true then dig (z.natAbs / Nat.gcd z.natAbs b) else []
def loD (z : Int) (b : Nat) : List Nat := if okL z.natAbs b = true then dig (b / Nat.gcd z.natAbs b) else []
def rtS (ok : Bool) (z : Int) (b : Nat) : Bool := ok && loS z b
def rtN (ok : Bool) (z : Int) (b : Nat) : List Nat := if ok = true then loN z b else []
def rtD (ok : Bool) (z : Int) (b : Nat) : List Nat := if ok = true then loD z b else []
theorem rtS_yes {ok : Bool} {z : Int} {b : Nat} (h : ok = true) : rtS ok z b = loS z b := by unfold rtS; rw [h]; rfl
theorem rtN_yes {ok : Bool} {z : Int} {b : Nat} (h : ok = true) : rtN ok z b = loN z b := if_pos h
theorem rtD_yes {ok : Bool} {z : Int} {b : Nat} (h : ok = true) : rtD ok z b = loD z b := if_pos h
theorem rtS_no {ok : Bool} {z : Int} {b : Nat} (h : ok = false) : rtS ok z b = false := by unfold rtS; rw [h]; rfl
theorem rtN_no {ok : Bool} {z : Int} {b : Nat} (h : ok = false) : rtN ok z b = [] := by unfold rtN; rw [h]; rfl
theorem rtD_no {ok : Bool} {z : Int} {b : Nat} (h : ok = false) : rtD ok z b = [] := by unfold rtD; rw [h]; rfl
theorem okR_parts {s : Bool} {xs ys : List Int} (h : okR s xs ys = true) : okB s xs = true ∧ okI ys = true ∧ 0 < ys.length ∧ ys.length ≤ 24 ∧ xs.length ≤ 24 ∧ Nat.gcd (val (toN xs)) (val (toN ys)) = 1 := by
 unfold okR at h
 simp at h
 exact ⟨h.1.1.1.1.1, h.1.1.1.1.2, h.1.1.1.2, h.1.1.2, h.1.2, h.2⟩
theorem okR_nats {s : Bool} {xs ys : List Int} (h : okR s xs ys = true) : ints xs = nats (toN xs) ∧ ints ys = nats (toN ys) ∧ Valid (toN xs) (toN ys) := by
 obtain ⟨h1, h2, h3, h4, h5, h6⟩ := okR_parts h
 obtain ⟨a1, a2, a3⟩ := okI_nats (okB_ok h1)
 obtain ⟨b1, b2, b3⟩ := okI_nats h2
 exact ⟨a1, b1, a2, b2, by rw [toN_len]; exact h5, by rw [toN_len]; exact h4, by rw [toN_len]; exact h3⟩
theorem dig_one : dig 1 = [1] := by
 have h : Canon [1] := ⟨by intro d hd; simp at hd; subst hd; decide, by simp⟩
 have := dig_of_can h
 simpa [val] using this
def isOne (ds : List Nat) : Bool := decide (ds = [1])
theorem isOne_val {ds : List Nat} (h : Canon ds) : isOne ds = decide (val ds = 1) := by
 unfold isOne
 by_cases e : ds = [1]
 · subst e; simp [val]
 · have : val ds ≠ 1 := by
     intro h1
     apply e
     rw [← dig_of_can h, h1, dig_one]
   simp [e, this]
theorem isOne_dig (a : Nat) : isOne (dig a) = decide (a = 1) := by rw [isOne_val (dig_can a), val_dig]
theorem val_pos {ds : List Nat} (h : Canon ds) (hl : 0 < ds.length) : 0 < val ds := by
 rcases Nat.eq_zero_or_pos (val ds) with h0 | h0
 · have h1 := dig_of_can h
   rw [h0, dig_zero] at h1
   rw [← h1] at hl
   simp at hl
 · exact h0
theorem dig_pos_len {a : Nat} (h : 0 < a) : 0 < (dig a).length := by
 rcases Nat.eq_zero_or_pos (dig a).length with h0 | h0
 · have h1 := val_dig a
   rw [List.eq_nil_of_length_eq_zero h0] at h1
   simp [val] at h1
   omega
 · exact h0
theorem loS_of {z : Int} {b : Nat} (s : Bool) {a : Nat} (hz : signed s a = z) : (loS z b = (okL a b && (s && decide (0 < a)))) := by
 subst hz
 unfold loS
 rw [signed_abs]
 cases s
 · have : ¬ signed false a < 0 := by simp [signed]
   simp [this]
 · by_cases h : 0 < a
   · have : signed true a < 0 := by simp [signed]; omega
     simp [this, h]
   · have : ¬ signed true a < 0 := by simp [signed]; omega
     simp [this, h]
theorem loN_of {z : Int} {b : Nat} (s : Bool) {a : Nat} (hz : signed s a = z) : loN z b = if okL a b = true then dig (a / Nat.gcd a b) else [] := by subst hz; unfold loN; rw [signed_abs]
theorem loD_of {z : Int} {b : Nat} (s : Bool) {a : Nat} (hz : signed s a = z) : loD z b = if okL a b = true then dig (b / Nat.gcd a b) else [] := by subst hz; unfold loD; rw [signed_abs]
def cmpZ (a b : Int) : Int := if a < b then -1 else if a = b then 0 else 1
theorem sgZ_small {z : Int} (h : z.natAbs < 1000000000 ^ 60) : sgZ z = decide (z < 0) := by
 unfold sgZ
 rw [capd_of h]
 by_cases hz : z < 0
 · have : 0 < (dig z.natAbs).length := dig_pos_len (by omega)
   simp [hz, this]
 · simp [hz]
theorem magZ_small {z : Int} (h : z.natAbs < 1000000000 ^ 60) : magZ z = dig z.natAbs := capd_of h
theorem cmpS_cmpZ {a b : Int} : cmpS (decide (a < 0)) (decide (b < 0)) a.natAbs b.natAbs = cmpZ a b := by
 unfold cmpS cmpZ sgn
 by_cases ha : a < 0 <;> by_cases hb : b < 0 <;> simp [ha, hb] <;> (repeat' split) <;> omega
theorem pow_mul_lt {a b i j k : Nat} (ha : a < 1000000000 ^ i) (hb : b < 1000000000 ^ j) (h : i + j ≤ k) : a * b < 1000000000 ^ k := by
 have h1 : a * b < 1000000000 ^ i * 1000000000 ^ j := Nat.mul_lt_mul'' ha hb
 rw [← Nat.pow_add] at h1
 exact Nat.lt_of_lt_of_le h1 (Nat.pow_le_pow_right (by decide) h)
theorem pow_up {a i k : Nat} (ha : a < 1000000000 ^ i) (h : i ≤ k) : a < 1000000000 ^ k := Nat.lt_of_lt_of_le ha (Nat.pow_le_pow_right (by decide) h)
theorem pow_add_lt {a b i k : Nat} (ha : a < 1000000000 ^ i) (hb : b < 1000000000 ^ i) (h : i + 1 ≤ k) : a + b < 1000000000 ^ k := by
 have h2 : 1000000000 ^ i * 1000000000 ≤ 1000000000 ^ k := by rw [← Nat.pow_succ]; exact Nat.pow_le_pow_right (by decide) h
 obtain ⟨P, hP⟩ : ∃ P, 1000000000 ^ i = P := ⟨_, rfl⟩
 obtain ⟨Q, hQ⟩ : ∃ Q, 1000000000 ^ k = Q := ⟨_, rfl⟩
 rw [hP] at ha hb h2
 rw [hQ] at h2 ⊢
 omega
theorem val_lt_24 {ds : List Nat} (h : Canon ds) (hl : ds.length ≤ 24) : val ds < 1000000000 ^ 24 := pow_up (val_lt h.1) hl
theorem abs_mul (s : Bool) (a b : Nat) : (signed s a * (b : Int)).natAbs = a * b := by rw [Int.natAbs_mul, signed_abs]; rfl
theorem abs_add_le (x y : Int) : (x + y).natAbs ≤ x.natAbs + y.natAbs := Int.natAbs_add_le x y
theorem signed_z (s : Bool) (a b : Nat) : signed s (a * b) = signed s a * (b : Int) := by cases s <;> simp [signed, Int.neg_mul]
theorem gcd_one {a b : Nat} (h : Nat.gcd a b = 1) : a / Nat.gcd a b = a ∧ b / Nat.gcd a b = b := by rw [h]; simp
theorem okL_bound {a b : Nat} (h0 : 0 < b) (ha : (dig a).length ≤ 24) (hb : (dig b).length ≤ 24) : okL a b = true := by
 have h1 : (dig (a / Nat.gcd a b)).length ≤ 24 := dig_len (Nat.lt_of_le_of_lt (Nat.div_le_self _ _) (dig_len_iff.mp ha))
 have h2 : (dig (b / Nat.gcd a b)).length ≤ 24 := dig_len (Nat.lt_of_le_of_lt (Nat.div_le_self _ _) (dig_len_iff.mp hb))
 unfold okL
 simp [h1, h2]
 omega
theorem signed_len (s : Bool) (ds : List Nat) : signed (s && decide (0 < ds.length)) (val ds) = signed s (val ds) := by
 cases ds with
 | nil => cases s <;> simp [signed, val]
 | cons x r => simp
theorem mul_small {ds gs : List Nat} (h1 : Canon ds) (l1 : ds.length ≤ 24) (h2 : Canon gs) (l2 : gs.length ≤ 24) : val ds * val gs < 1000000000 ^ 48 := pow_mul_lt (val_lt_24 h1 l1) (val_lt_24 h2 l2) (by decide)
theorem mul_len {ds gs : List Nat} (h1 : Canon ds) (l1 : ds.length ≤ 24) (h2 : Canon gs) (l2 : gs.length ≤ 24) : (dig (val ds * val gs)).length ≤ 60 := Nat.le_trans (dig_len (mul_small h1 l1 h2 l2)) (by decide)
theorem add_small {s t : Bool} {ds bs es gs : List Nat} (hv : Valid ds bs) (hv2 : Valid es gs) : (signed s (val ds) * (val gs : Int) + signed t (val es) * (val bs : Int)).natAbs < 1000000000 ^ 60 := by
 refine Nat.lt_of_le_of_lt (abs_add_le _ _) ?_
 rw [abs_mul, abs_mul]
 exact pow_add_lt (mul_small hv.1 hv.2.2.1 hv2.2.1 hv2.2.2.2.1) (mul_small hv2.1 hv2.2.2.1 hv.2.1 hv.2.2.2.1) (by decide)
theorem one_small {s : Bool} {ds gs : List Nat} (h1 : Canon ds) (l1 : ds.length ≤ 24) (h2 : Canon gs) (l2 : gs.length ≤ 24) : (signed s (val ds) * (val gs : Int)).natAbs < 1000000000 ^ 60 := by
 rw [abs_mul]
 exact pow_up (mul_small h1 l1 h2 l2) (by decide)
def Half (ds bs : List Nat) : Prop := Canon ds ∧ Canon bs ∧ ds.length ≤ 24 ∧ bs.length ≤ 24 ∧ True
def Semi (s : Bool) (xs ys : List Int) : Prop := okB s xs = true ∧ okI ys = true ∧ True ∧ ys.length ≤ 24 ∧ xs.length ≤ 24 ∧ True
theorem semi_ok {s : Bool} {xs ys : List Int} (h : okR s xs ys = true) : Semi s xs ys := by
 obtain ⟨h1, h2, h3, h4, h5, h6⟩ := okR_parts h
 exact ⟨h1, h2, trivial, h4, h5, trivial⟩
theorem semi_zero : Semi false [] [] := by refine ⟨by simp [okB, okI], by simp [okI], trivial, by simp, by simp, trivial⟩
theorem Semi.parts {s : Bool} {xs ys : List Int} (h : Semi s xs ys) : okB s xs = true ∧ okI ys = true ∧ True ∧ ys.length ≤ 24 ∧ xs.length ≤ 24 ∧ True := h
theorem Semi.nats {s : Bool} {xs ys : List Int} (h : Semi s xs ys) : ints xs = Go.Proofs.YtaboodioabopnaaGreat.nats (toN xs) ∧ ints ys = Go.Proofs.YtaboodioabopnaaGreat.nats (toN ys) ∧ Half (toN xs) (toN ys) := by
 obtain ⟨h1, h2, h3, h4, h5, h6⟩ := h
 obtain ⟨a1, a2, a3⟩ := okI_nats (okB_ok h1)
 obtain ⟨b1, b2, b3⟩ := okI_nats h2
 exact ⟨a1, b1, a2, b2, by rw [toN_len]; exact h5, by rw [toN_len]; exact h4, trivial⟩
theorem add_small0 {s t : Bool} {ds bs es gs : List Nat} (hv : Half ds bs) (hv2 : Half es gs) : (signed s (val ds) * (val gs : Int) + signed t (val es) * (val bs : Int)).natAbs < 1000000000 ^ 60 := by
 refine Nat.lt_of_le_of_lt (abs_add_le _ _) ?_
 rw [abs_mul, abs_mul]
 exact pow_add_lt (mul_small hv.1 hv.2.2.1 hv2.2.1 hv2.2.2.2.1) (mul_small hv2.1 hv2.2.2.1 hv.2.1 hv.2.2.2.1) (by decide)
theorem one_row (u : World) (t : TypeId) : Arg (u.alloc (.cells #[.int .i64 1] t)) (some ⟨u.heap.size, 0, none⟩) 1 1 (nats [1]) := by
 refine ⟨⟨rfl, fun _ => ⟨u.heap.size, 0, rfl, by simp, fun k hk => ?_⟩⟩, by decide, by unfold maxLen; decide, by simp⟩
 obtain rfl : k = 0 := by omega
 simp [go_sem, nats, ints]
theorem isOne_yes {ds : List Nat} (h : isOne ds = true) : ds = [1] := by unfold isOne at h; exact of_decide_eq_true h
theorem quoN_yes {xs ys : List Int} (h1 : okI xs = true) (h2 : okI ys = true) : quoN xs ys = dig (val (toN xs) / val (toN ys)) := (divN_yes h1 h2).1
theorem okL_no_zero {a : Nat} : okL a 0 = false := by unfold okL; simp
theorem okL_no_num {a b : Nat} (h : 24 < (dig (a / Nat.gcd a b)).length) : okL a b = false := by
 unfold okL
 have : ¬ (dig (a / Nat.gcd a b)).length ≤ 24 := by omega
 simp [this]
theorem okL_no_den {a b : Nat} (h : 24 < (dig (b / Nat.gcd a b)).length) : okL a b = false := by
 unfold okL
 have : ¬ (dig (b / Nat.gcd a b)).length ≤ 24 := by omega
 simp [this]
theorem okL_yes {a b : Nat} (h0 : b ≠ 0) (h1 : ¬ 24 < (dig (a / Nat.gcd a b)).length) (h2 : ¬ 24 < (dig (b / Nat.gcd a b)).length) : okL a b = true := by
 unfold okL
 have h3 : (dig (a / Nat.gcd a b)).length ≤ 24 := by omega
 have h4 : (dig (b / Nat.gcd a b)).length ≤ 24 := by omega
 simp [h0, h3, h4]
theorem low_none {s : Bool} {a b : Nat} {z : Int} (hz : signed s a = z) (h : okL a b = false) : loS z b = false ∧ loN z b = [] ∧ loD z b = [] := by
 rw [loS_of s hz, loN_of s hz, loD_of s hz, h]
 simp
theorem div_pos_iff (a b : Nat) (h0 : b ≠ 0) : 0 < a / Nat.gcd a b ↔ 0 < a := by
 constructor
 · intro h
   rcases Nat.eq_zero_or_pos a with e | e
   · rw [e] at h; simp at h
   · exact e
 · intro h
   exact Nat.div_pos (Nat.le_of_dvd h (Nat.gcd_dvd_left a b)) (Nat.gcd_pos_of_pos_left b h)
theorem len_pos_iff (a : Nat) : 0 < (dig a).length ↔ 0 < a := by
 constructor
 · intro h
   rcases Nat.eq_zero_or_pos a with e | e
   · rw [e, dig_zero] at h; simp at h
   · exact e
 · exact dig_pos_len
theorem low_some {s : Bool} {a b : Nat} {z : Int} (hz : signed s a = z) (h : okL a b = true) : loS z b = (s && decide (0 < (dig (a / Nat.gcd a b)).length)) ∧ loN z b = dig (a / Nat.gcd a b) ∧ loD z b = dig (b / Nat.gcd a b) := by
 have h0 : b ≠ 0 := by unfold okL at h; simp at h; exact h.1.1
 rw [loS_of s hz, loN_of s hz, loD_of s hz, h]
 have e : decide (0 < a) = decide (0 < (dig (a / Nat.gcd a b)).length) := by
   rw [decide_eq_decide, len_pos_iff, div_pos_iff a b h0]
 simp [e]
theorem low_make {s : Bool} {a b : Nat} {z : Int} (hz : signed s a = z) (h : okL a b = true) : loS z b = sgZ (signed s (a / Nat.gcd a b)) ∧ loN z b = magZ (signed s (a / Nat.gcd a b)) ∧ loD z b = dig (b / Nat.gcd a b) := by
 obtain ⟨h1, h2, h3⟩ := low_some hz h
 have hl : (dig (a / Nat.gcd a b)).length ≤ 24 := by unfold okL at h; simp at h; exact h.1.2
 have hc : capd (a / Nat.gcd a b) = dig (a / Nat.gcd a b) := capd_of (pow_up (dig_len_iff.mp hl) (by decide))
 refine ⟨?_, ?_, h3⟩
 · rw [h1, sgZ_signed, hc]
 · rw [h2, magZ_signed, hc]
theorem Arg.trim {w : World} {A : Option Addr} {n c : Nat} {ds : List Nat} (h : Arg w A n c (nats ds)) (hd : Digs ds) : Arg w A (dig (val ds)).length c (nats (dig (val ds))) := by
 have h3 := dig_le_len hd
 have h4 := h.nlen
 have hcut := h.1.take (m := (dig (val ds)).length) (by omega)
 rw [nats_take, take_dig hd] at hcut
 exact ⟨hcut, by have := h.2.1; omega, h.2.2.1, h.2.2.2⟩
theorem Arg.same {w : World} {A : Option Addr} {n c : Nat} {X Y : List Value} (h : Arg w A n c X) (e : X = Y) : Arg w A n c Y := e ▸ h
theorem appended {u u1 : World} {o : Obj} {v : Value} {k : Nat} {X : List Value} (hown : u1.ownsRow u.heap.size 3 1 v k X) (hg : (u.alloc o).grownBy u1 (some u.heap.size)) : OwnV u1 u.heap.size 3 v X ∧ Below u.heap.size u u1 :=
 ⟨OwnV.of_own hown, ((Below.refl u.heap.size u).alloc (Nat.le_refl _) o).grown hg (by simp) (fun k hk => by have e9 : u.heap.size = k := Option.some.inj hk; omega)⟩
end Go.Proofs.YtaboodioabopnaaGreat
namespace Go.Proofs.YtaboodioabopnaaGreat
open Go.RowKit
set_option linter.unusedVariables false
theorem OwnV.shape3 {w : World} {base : Nat} {e : TypeId} {v : Value} {X : List Value} (h : OwnV w base e v X) : ∃ A n c, v = .slice A n c := by
 obtain ⟨A, c, h⟩ := h.shape
 exact ⟨A, _, c, h⟩
abbrev Chunk := List (Value × List Value)
def Far (a b : Option Nat) : Prop := ∀ k, a = some k → b = some k → False
theorem Far.symm {a b : Option Nat} (h : Far a b) : Far b a := fun k h1 h2 => h k h2 h1
theorem Far.ne {a b : Option Nat} (h : Far a b) : a = none ∨ a ≠ b := by
 cases a with
 | none => exact .inl rfl
 | some k => exact .inr fun e => h k rfl e.symm
def FarL (l m : Chunk) : Prop := ∀ p ∈ l, ∀ q ∈ m, Far p.1.ownBlock q.1.ownBlock
theorem FarL.symm {l m : Chunk} (h : FarL l m) : FarL m l := fun p hp q hq => (h q hq p hp).symm
def blks (l : Chunk) : List (Option Nat) := l.map fun p => p.1.ownBlock
def Owns (w : World) (base : Nat) (rs : Chunk) : Prop :=
 (∀ p ∈ rs, OwnV w base 3 p.1 p.2) ∧ rs.Pairwise fun p q => Far p.1.ownBlock q.1.ownBlock
structure Turned (w w' : World) (bl : List (Option Nat)) : Prop where
 os : w'.os = w.os
 tape : w'.tape = w.tape
 output : w'.output = w.output
 size : w.heap.size ≤ w'.heap.size
 block : ∀ k, k < w.heap.size → some k ∉ bl → w'.heap[k]? = w.heap[k]?
theorem OwnV.sameAt {w w' : World} {base : Nat} {e : TypeId} {v : Value} {X : List Value} (h : OwnV w base e v X) (hb : ∀ k, v.ownBlock = some k → w'.heap[k]? = w.heap[k]?) : OwnV w' base e v X := by
 rcases h with h | ⟨g, c, ys, rfl, h1, h2, h3, h4⟩
 · exact .inl h
 · refine .inr ⟨g, c, ys, rfl, h1, h2, ?_, h4⟩
   obtain ⟨q1, q2⟩ := h3
   refine ⟨q1, ?_⟩
   rcases q2 with q2 | ⟨g', cap, cur, hv, hbase, hh, r⟩
   · exact .inl q2
   · obtain ⟨rfl, _⟩ : g = g' ∧ ys.length = cap := by simpa using hv
     exact .inr ⟨g, cap, cur, hv, hbase, (hb g (by simp [Value.ownBlock])).trans hh, r⟩
section
variable {w w' w1 w2 : World} {bl bm : List (Option Nat)}
theorem Turned.refl (w : World) (bl : List (Option Nat)) : Turned w w bl := ⟨rfl, rfl, rfl, Nat.le_refl _, fun _ _ _ => rfl⟩
theorem Turned.of_below {B : Nat} (h : Below B w w') (hB : w.heap.size ≤ B) : Turned w w' [] := ⟨h.os, h.tape, h.output, h.size, fun k hk _ => h.block k (by omega)⟩
theorem Turned.trans (h : Turned w w1 bl) (h2 : Turned w1 w2 bm) : Turned w w2 (bl ++ bm) :=
 ⟨h2.os.trans h.os, h2.tape.trans h.tape, h2.output.trans h.output, Nat.le_trans h.size h2.size, fun k hk hn => by
   rw [List.mem_append, not_or] at hn
   exact (h2.block k (Nat.lt_of_lt_of_le hk h.size) hn.2).trans (h.block k hk hn.1)⟩
theorem Turned.mono (h : Turned w w' bl) (hs : ∀ x ∈ bl, x ∈ bm) : Turned w w' bm := ⟨h.os, h.tape, h.output, h.size, fun k hk hn => h.block k hk fun hm => hn (hs _ hm)⟩
theorem Turned.below {B : Nat} {a : World} (ht : Turned w w' bl) (h : Below B a w) (hB : B ≤ w.heap.size) (hb : ∀ k, some k ∈ bl → B ≤ k) : Below B a w' :=
 ⟨ht.os.trans h.os, ht.tape.trans h.tape, ht.output.trans h.output, Nat.le_trans h.size ht.size, fun k hk => (ht.block k (by omega) (fun hm => by have := hb k hm; omega)).trans (h.block k hk)⟩
theorem Turned.held {b : Nat} {vs : List Value} (ht : Turned w w' bl) (h : HeldL w b vs) (hb : some b ∉ bl) : HeldL w' b vs := h.same ht.size (ht.block b h.lt hb)
theorem Turned.own {base : Nat} {e : TypeId} {v : Value} {X : List Value} (ht : Turned w w' bl) (h : OwnV w base e v X) (hb : ∀ x ∈ bl, Far v.ownBlock x) : OwnV w' base e v X :=
 h.sameAt fun k hk => ht.block k (h.lt k hk).2 fun hm => hb _ hm k hk rfl
end
theorem Owns.nil (w : World) (base : Nat) : Owns w base [] := ⟨by simp, .nil⟩
theorem Owns.below {w w' : World} {base : Nat} {l : Chunk} (h : Owns w base l) (hb : Below w.heap.size w w') : Owns w' base l := ⟨fun p hp => (h.1 p hp).below hb, h.2⟩
theorem Owns.based {w : World} {base base' : Nat} {l : Chunk} (h : Owns w base l) (hb : base' ≤ base) : Owns w base' l := ⟨fun p hp => (h.1 p hp).based hb, h.2⟩
theorem Owns.app {w : World} {base : Nat} {l m : Chunk} (h : Owns w base l) (h2 : Owns w base m) (hf : FarL l m) : Owns w base (l ++ m) :=
 ⟨fun p hp => (List.mem_append.mp hp).elim (h.1 p) (h2.1 p), List.pairwise_append.mpr ⟨h.2, h2.2, hf⟩⟩
theorem Owns.left {w : World} {base : Nat} {l m : Chunk} (h : Owns w base (l ++ m)) : Owns w base l := ⟨fun p hp => h.1 p (List.mem_append_left _ hp), (List.pairwise_append.mp h.2).1⟩
theorem Owns.right {w : World} {base : Nat} {l m : Chunk} (h : Owns w base (l ++ m)) : Owns w base m := ⟨fun p hp => h.1 p (List.mem_append_right _ hp), (List.pairwise_append.mp h.2).2.1⟩
theorem Owns.far {w : World} {base : Nat} {l m : Chunk} (h : Owns w base (l ++ m)) : FarL l m := fun p hp q hq => (List.pairwise_append.mp h.2).2.2 p hp q hq
theorem Owns.at_ {w : World} {base : Nat} {l : Chunk} (h : Owns w base l) (k : Nat) {v : Value} {X : List Value} (e : l[k]? = some (v, X)) : OwnV w base 3 v X := h.1 _ (List.mem_of_getElem? e)
theorem Owns.newer {w w' : World} {base base' : Nat} {l m : Chunk} (h : Owns w base l) (h2 : Owns w' base' m) (hb : w.heap.size ≤ base') : FarL m l := fun p hp q hq k e1 e2 => by
 have a := ((h2.1 p hp).lt k e1).1
 have b := ((h.1 q hq).lt k e2).2
 omega
structure St (w0 w : World) (bs : List (Nat × List Value)) (cs : List Chunk) : Prop where
 below : Below w0.heap.size w0 w
 box : ∀ p ∈ bs, HeldL w p.1 p.2 ∧ w0.heap.size ≤ p.1
 row : ∀ l ∈ cs, Owns w w0.heap.size l
 bb : bs.Pairwise fun p q => p.1 ≠ q.1
 cc : cs.Pairwise FarL
 br : ∀ p ∈ bs, ∀ l ∈ cs, ∀ q ∈ l, Far (some p.1) q.1.ownBlock
section
variable {w0 w w' : World} {bs : List (Nat × List Value)} {cs : List Chunk}
theorem St.start (w : World) : St w w [] [] := ⟨Below.refl _ _, by simp, by simp, .nil, .nil, by simp⟩
theorem St.size (h : St w0 w bs cs) : w0.heap.size ≤ w.heap.size := h.below.size
theorem St.held (h : St w0 w bs cs) (k : Nat) {b : Nat} {vs : List Value} (e : bs[k]? = some (b, vs)) : HeldL w b vs := (h.box _ (List.mem_of_getElem? e)).1
theorem St.cell (h : St w0 w bs cs) (k j : Nat) {b : Nat} {vs : List Value} {v : Value} (e : bs[k]? = some (b, vs)) (e2 : vs[j]? = some v) : w.cell? ⟨b, j, none⟩ = some v := (h.held k e).cell j v e2
theorem St.froz (h : St w0 w bs cs) (k j : Nat) {b : Nat} {vs : List Value} {v : Value} (e : bs[k]? = some (b, vs)) (e2 : vs[j]? = some v) : w.frozen? ⟨b, j, none⟩ = false := (h.held k e).froz j v e2
theorem St.own (h : St w0 w bs cs) (k : Nat) {l : Chunk} (e : cs[k]? = some l) : Owns w w0.heap.size l := h.row _ (List.mem_of_getElem? e)
theorem St.lt (h : St w0 w bs cs) (k : Nat) {b : Nat} {vs : List Value} (e : bs[k]? = some (b, vs)) : b < w.heap.size := (h.held k e).lt
theorem St.ge (h : St w0 w bs cs) (k : Nat) {b : Nat} {vs : List Value} (e : bs[k]? = some (b, vs)) : w0.heap.size ≤ b := (h.box _ (List.mem_of_getElem? e)).2
theorem St.ne (h : St w0 w bs cs) (i k : Nat) {b c : Nat} {vs us : List Value} (e : bs[i]? = some (b, vs)) (e2 : bs[k]? = some (c, us)) (hik : i ≠ k) : b ≠ c := by
 obtain ⟨h1, g1⟩ := List.getElem?_eq_some_iff.mp e
 obtain ⟨h2, g2⟩ := List.getElem?_eq_some_iff.mp e2
 have P := List.pairwise_iff_getElem.mp h.bb
 rcases Nat.lt_or_gt_of_ne hik with l | l
 · have := P i k h1 h2 l; rw [g1, g2] at this; exact this
 · have := P k i h2 h1 l; rw [g1, g2] at this; exact fun e => this e.symm
theorem St.far (h : St w0 w bs cs) (i k : Nat) {l m : Chunk} (e : cs[i]? = some l) (e2 : cs[k]? = some m) (hik : i ≠ k) : FarL l m := by
 obtain ⟨h1, g1⟩ := List.getElem?_eq_some_iff.mp e
 obtain ⟨h2, g2⟩ := List.getElem?_eq_some_iff.mp e2
 have P := List.pairwise_iff_getElem.mp h.cc
 rcases Nat.lt_or_gt_of_ne hik with l | l
 · have := P i k h1 h2 l; rw [g1, g2] at this; exact this
 · have := P k i h2 h1 l; rw [g1, g2] at this; exact this.symm
theorem St.drew (h : St w0 w bs cs) : St w0 w.drew bs cs := ⟨⟨h.below.os, h.below.tape, h.below.output, h.below.size, h.below.block⟩, fun p hp => ⟨(h.box p hp).1.drew, (h.box p hp).2⟩, fun l hl => h.row l hl, h.bb, h.cc, h.br⟩
theorem St.call (h : St w0 w bs cs) (hb : Below w.heap.size w w') : St w0 w' bs cs :=
 ⟨h.below.trans (hb.mono h.size), fun p hp => ⟨(h.box p hp).1.after hb, (h.box p hp).2⟩, fun p hp => (h.row p hp).below hb, h.bb, h.cc, h.br⟩
theorem St.rows {l : Chunk} (h : St w0 w bs cs) (ho : Owns w' w.heap.size l) (hb : Below w.heap.size w w') : St w0 w' bs (l :: cs) := by
 have h' := h.call hb
 refine ⟨h'.below, h'.box, fun m hm => ?_, h'.bb, List.pairwise_cons.mpr ⟨fun m hm => (h.row m hm).newer ho (Nat.le_refl _), h'.cc⟩, fun p hp m hm q hq => ?_⟩
 · rcases List.mem_cons.mp hm with rfl | a
   · exact ho.based h.size
   · exact h'.row m a
 · rcases List.mem_cons.mp hm with rfl | a
   · intro k e1 e2
     have a := ((ho.1 q hq).lt k e2).1
     have b := (h.box p hp).1.lt
     obtain rfl : p.1 = k := by simpa using e1
     omega
   · exact h'.br p hp m a q hq
theorem St.split {l m : Chunk} (h : St w0 w bs ((l ++ m) :: cs)) : St w0 w bs (l :: m :: cs) := by
 have ho := h.row (l ++ m) (by simp)
 have hc := List.pairwise_cons.mp h.cc
 refine ⟨h.below, h.box, fun q hq => ?_, h.bb, List.pairwise_cons.mpr ⟨fun q hq => ?_, List.pairwise_cons.mpr ⟨fun q hq p hp => hc.1 q hq p (by simp [hp]), hc.2⟩⟩, fun p hp q hq => ?_⟩
 · simp only [List.mem_cons] at hq
   rcases hq with rfl | rfl | a
   · exact ho.left
   · exact ho.right
   · exact h.row q (by simp [a])
 · rcases List.mem_cons.mp hq with rfl | a
   · exact ho.far
   · exact fun p hp => hc.1 q a p (by simp [hp])
 · simp only [List.mem_cons] at hq
   rcases hq with rfl | rfl | a
   · exact fun r hr => h.br p hp (q ++ m) (by simp) r (by simp [hr])
   · exact fun r hr => h.br p hp (l ++ q) (by simp) r (by simp [hr])
   · exact h.br p hp q (by simp [a])
theorem St.alloc (h : St w0 w bs cs) (vs : List Value) (T : TypeId) : St w0 (w.alloc (.cells vs.toArray T)) ((w.heap.size, vs) :: bs) cs := by
 have hb : Below w.heap.size w (w.alloc (.cells vs.toArray T)) := (Below.refl _ w).alloc (Nat.le_refl _) _
 have h' := h.call hb
 refine ⟨h'.below, ?_, h'.row, List.pairwise_cons.mpr ⟨fun p hp => ?_, h.bb⟩, h.cc, ?_⟩
 · intro p hp
   rcases List.mem_cons.mp hp with rfl | a
   · exact ⟨HeldL.new w vs T, h.size⟩
   · exact h'.box p a
 · have := (h.box p hp).1.lt
   exact fun e => by simp only at e; omega
 · intro p hp m hm q hq
   rcases List.mem_cons.mp hp with rfl | a
   · intro k e1 e2
     have := (((h.row m hm).1 q hq).lt k e2).2
     simp only [Option.some.injEq] at e1
     omega
   · exact h.br p a m hm q hq
theorem St.alloc_at (h : St w0 w bs cs) {b : Nat} (vs : List Value) (T : TypeId) (e : w.heap.size = b) : St w0 (w.alloc (.cells vs.toArray T)) ((b, vs) :: bs) cs := e ▸ h.alloc vs T
theorem St.boxed {b : Nat} {vs : List Value} (h : St w0 w bs cs) (hb : Below w.heap.size w w') (hk : HeldL w' b vs) (hl : w.heap.size ≤ b) : St w0 w' ((b, vs) :: bs) cs := by
 have h' := h.call hb
 have hs := h.size
 refine ⟨h'.below, ?_, h'.row, List.pairwise_cons.mpr ⟨fun p hp => ?_, h.bb⟩, h.cc, ?_⟩
 · intro p hp
   rcases List.mem_cons.mp hp with rfl | a
   · exact ⟨hk, Nat.le_trans hs hl⟩
   · exact h'.box p a
 · have := (h.box p hp).1.lt
   exact fun e => by simp only at e; omega
 · intro p hp m hm q hq
   rcases List.mem_cons.mp hp with rfl | a
   · intro k e1 e2
     have := (((h.row m hm).1 q hq).lt k e2).2
     simp only [Option.some.injEq] at e1
     omega
   · exact h.br p a m hm q hq
theorem St.turned {bl : List (Option Nat)} {bs' : List (Nat × List Value)} {cs' : List Chunk} (h : St w0 w bs cs) (ht : Turned w w' bl) (hbl : ∀ k, some k ∈ bl → w0.heap.size ≤ k)
   (eb : bs'.map Prod.fst = bs.map Prod.fst) (ec : cs'.map (fun l => l.map Prod.fst) = cs.map fun l => l.map Prod.fst)
   (hb : ∀ p ∈ bs', HeldL w' p.1 p.2) (hc : ∀ l ∈ cs', Owns w' w0.heap.size l) : St w0 w' bs' cs' := by
 refine ⟨ht.below h.below h.size hbl, fun p hp => ⟨hb p hp, ?_⟩, hc, ?_, ?_, ?_⟩
 · have : p.1 ∈ bs.map Prod.fst := by rw [← eb]; exact List.mem_map_of_mem hp
   obtain ⟨q, hq, e⟩ := List.mem_map.mp this
   rw [← e]; exact (h.box q hq).2
 · have := h.bb
   rw [← List.pairwise_map (f := Prod.fst) (R := fun a b => a ≠ b)] at this ⊢
   rw [eb]; exact this
 · have P : (cs.map fun l => l.map Prod.fst).Pairwise fun l m => ∀ p ∈ l, ∀ q ∈ m, Far (Value.ownBlock p) (Value.ownBlock q) := by
     rw [List.pairwise_map]
     exact h.cc.imp fun {l m} (hf : FarL l m) p hp q hq => by
       obtain ⟨p', hp', rfl⟩ := List.mem_map.mp hp
       obtain ⟨q', hq', rfl⟩ := List.mem_map.mp hq
       exact hf p' hp' q' hq'
   rw [← ec, List.pairwise_map] at P
   refine P.imp fun {l m} hf => ?_
   intro p hp q hq
   exact hf p.1 (List.mem_map_of_mem hp) q.1 (List.mem_map_of_mem hq)
 · intro p hp l hl q hq
   have a : p.1 ∈ bs.map Prod.fst := by rw [← eb]; exact List.mem_map_of_mem hp
   obtain ⟨p', hp', e⟩ := List.mem_map.mp a
   have b : l.map Prod.fst ∈ cs.map (fun l => l.map Prod.fst) := by rw [← ec]; exact List.mem_map_of_mem (f := fun l : Chunk => l.map Prod.fst) hl
   obtain ⟨l', hl', e'⟩ := List.mem_map.mp b
   have c : q.1 ∈ l'.map Prod.fst := by rw [e']; exact List.mem_map_of_mem hq
   obtain ⟨q', hq', e''⟩ := List.mem_map.mp c
   rw [← e, ← e'']
   exact h.br p' hp' l' hl' q' hq'
theorem getElem?_set_cases {α : Type} {l : List α} {k i : Nat} {x y : α} (h : (l.set k x)[i]? = some y) : (i = k ∧ y = x) ∨ (i ≠ k ∧ l[i]? = some y) := by
 rw [List.getElem?_set] at h
 by_cases e : k = i
 · rw [if_pos e] at h
   split at h
   · exact .inl ⟨e.symm, (Option.some.inj h).symm⟩
   · simp at h
 · rw [if_neg e] at h
   exact .inr ⟨fun q => e q.symm, h⟩
theorem map_set_same {α β : Type} (f : α → β) {l : List α} {k : Nat} {x y : α} (e : l[k]? = some x) (hf : f y = f x) : (l.set k y).map f = l.map f := by
 rw [List.map_set, hf]
 apply List.ext_getElem?
 intro i
 rw [List.getElem?_set]
 split
 · rename_i h; subst h
   have hk := (List.getElem?_eq_some_iff.mp e).1
   simp [hk]
   have := (List.getElem?_eq_some_iff.mp e).2
   rw [this]
 · rfl
theorem St.set (h : St w0 w bs cs) (k j : Nat) {b : Nat} {vs : List Value} {u : Value} (v : Value) (e : bs[k]? = some (b, vs)) (e2 : vs[j]? = some u) : St w0 (w.setCell ⟨b, j, none⟩ v) (bs.set k (b, vs.set j v)) cs := by
 have ht : Turned w (w.setCell ⟨b, j, none⟩ v) [some b] := ⟨rfl, rfl, rfl, by simp, fun q hq hne => Below.heap_setCell w ⟨b, j, none⟩ v q (fun e => hne (by simp [e]))⟩
 refine h.turned ht ?_ (map_set_same _ e rfl) rfl ?_ ?_
 · intro q hq
   simp only [List.mem_singleton, Option.some.injEq] at hq
   rw [hq]; exact h.ge k e
 · intro p hp
   obtain ⟨i, hi⟩ := List.mem_iff_getElem?.mp hp
   rcases getElem?_set_cases hi with ⟨_, rfl⟩ | ⟨ik, e3⟩
   · exact (h.held k e).set j v u e2
   · exact (h.held i (b := p.1) (vs := p.2) e3).setOther (p := ⟨b, j, none⟩) (h.ne i k (b := p.1) (vs := p.2) e3 e ik) v
 · intro l hl
   refine ⟨fun p hp => ht.own ((h.row l hl).1 p hp) ?_, (h.row l hl).2⟩
   intro x hx
   simp only [List.mem_singleton] at hx
   rw [hx]
   exact (h.br _ (List.mem_of_getElem? e) l hl p hp).symm
def setCells (w : World) (b : Nat) : Nat → List Value → World
 | _, [] => w
 | j, v :: r => setCells (w.setCell ⟨b, j, none⟩ v) b (j + 1) r
theorem St.setSeg {X old us rest : List Value} {b m k : Nat} (h : St w0 w bs cs) (e : bs[k]? = some (b, X ++ (old ++ rest))) (hX : X.length = m) (hl : us.length = old.length) : St w0 (setCells w b m us) (bs.set k (b, X ++ (us ++ rest))) cs := by
 induction us generalizing w X old m bs with
 | nil =>
   obtain rfl : old = [] := List.eq_nil_of_length_eq_zero (by simpa using hl.symm)
   have : bs.set k (b, X ++ ([] ++ rest)) = bs := by
     apply List.ext_getElem?
     intro i
     rw [List.getElem?_set]
     split
     · rename_i hk; subst hk
       rw [e]; simp [(List.getElem?_eq_some_iff.mp e).1]
     · rfl
   rw [this]; exact h
 | cons v r ih =>
   cases old with
   | nil => simp at hl
   | cons u old =>
     subst hX
     have h1 := h.set k X.length (u := u) v e (by simp)
     have e1 : (X ++ (u :: old ++ rest)).set X.length v = (X ++ [v]) ++ (old ++ rest) := by simp
     rw [e1] at h1
     have hk := (List.getElem?_eq_some_iff.mp e).1
     have h2 := ih (X := X ++ [v]) (old := old) (m := X.length + 1) h1 (by simp [hk]) (by simp) (by simpa using hl)
     rw [List.set_set] at h2
     simpa [setCells] using h2
theorem St.setAll (h : St w0 w bs cs) (k : Nat) {b : Nat} {vs : List Value} (us : List Value) (e : bs[k]? = some (b, vs)) (hl : us.length = vs.length) : St w0 (setCells w b 0 us) (bs.set k (b, us)) cs := by
 have := h.setSeg (X := []) (old := vs) (us := us) (rest := []) (m := 0) (k := k) (b := b) (by simpa using e) rfl hl
 simpa using this
theorem St.sub {bs' : List (Nat × List Value)} {cs' : List Chunk} (h : St w0 w bs cs) (hb : bs'.Sublist bs) (hr : cs'.Sublist cs) : St w0 w bs' cs' :=
 ⟨h.below, fun p hp => h.box p (hb.subset hp), fun p hp => h.row p (hr.subset hp), h.bb.sublist hb, h.cc.sublist hr, fun p hp q hq => h.br p (hb.subset hp) q (hr.subset hq)⟩
theorem St.drop (h : St w0 w bs cs) (k : Nat) : St w0 w bs (cs.eraseIdx k) := h.sub (List.Sublist.refl _) (List.eraseIdx_sublist _ _)
theorem St.dropBox (h : St w0 w bs cs) (k : Nat) : St w0 w (bs.eraseIdx k) cs := h.sub (List.eraseIdx_sublist _ _) (List.Sublist.refl _)
theorem St.pick (h : St w0 w bs cs) (is : List Nat) (ls : List Chunk) (hn : is.Nodup) (hl : is.map (fun i => cs[i]?) = ls.map some) : Owns w w0.heap.size ls.flatten := by
 have hlen : is.length = ls.length := by simpa using congrArg List.length hl
 have G : ∀ m (h1 : m < is.length) (h2 : m < ls.length), cs[is[m]]? = some ls[m] := by
   intro m h1 h2
   have := congrArg (fun q => q[m]?) hl
   simpa [h1, h2] using this
 refine ⟨fun p hp => ?_, ?_⟩
 · obtain ⟨l, hl1, hp1⟩ := List.mem_flatten.mp hp
   obtain ⟨m, hm, rfl⟩ := List.getElem_of_mem hl1
   exact (h.own _ (G m (by omega) hm)).1 p hp1
 · rw [List.pairwise_flatten]
   refine ⟨fun l hl1 => ?_, ?_⟩
   · obtain ⟨m, hm, rfl⟩ := List.getElem_of_mem hl1
     exact (h.own _ (G m (by omega) hm)).2
   · rw [List.pairwise_iff_getElem]
     intro i j hi hj ij
     have hne : is[i]'(by omega) ≠ is[j]'(by omega) := fun e => by
       have := (List.getElem_inj hn).mp e
       omega
     exact h.far _ _ (G i (by omega) hi) (G j (by omega) hj) hne
theorem Owns.nils (w : World) (base n : Nat) : Owns w base (List.replicate n (.slice none 0 0, [])) := by
 refine ⟨fun p hp => ?_, ?_⟩
 · rw [(List.mem_replicate.mp hp).2]; exact OwnV.nil _ _ _
 · rw [List.pairwise_replicate]
   exact .inr fun k h1 => by simp [Value.ownBlock] at h1
theorem St.nils (h : St w0 w bs cs) (n : Nat) : St w0 w bs (List.replicate n (.slice none 0 0, []) :: cs) := by
 have F : ∀ q ∈ List.replicate n ((.slice none 0 0 : Value), ([] : List Value)), ∀ k, q.1.ownBlock ≠ some k := by
   intro q hq k
   rw [(List.mem_replicate.mp hq).2]; simp [Value.ownBlock]
 refine ⟨h.below, h.box, fun l hl => ?_, h.bb, List.pairwise_cons.mpr ⟨fun l hl p hp q hq k e1 e2 => F p hp k e1, h.cc⟩, fun p hp l hl q hq => ?_⟩
 · rcases List.mem_cons.mp hl with rfl | a
   · exact Owns.nils _ _ _
   · exact h.row l a
 · rcases List.mem_cons.mp hl with rfl | a
   · exact fun k e1 e2 => F q hq k e2
   · exact h.br p hp l a q hq
end
def ArgV (w : World) (v : Value) (X : List Value) : Prop := ∃ A n c, v = .slice A n c ∧ Arg w A n c X
theorem OwnV.argV {w : World} {base : Nat} {e : TypeId} {v : Value} {X : List Value} (h : OwnV w base e v X) : ArgV w v X := by
 obtain ⟨A, c, rfl⟩ := h.shape
 exact ⟨A, _, c, rfl, h.arg⟩
theorem ArgV.below {w w' : World} {v : Value} {X : List Value} (h : ArgV w v X) (hb : Below w.heap.size w w') : ArgV w' v X := by
 obtain ⟨A, n, c, rfl, h⟩ := h
 exact ⟨A, n, c, rfl, h.below hb (Nat.le_refl _)⟩
theorem Owns.argV {w : World} {base : Nat} {l : Chunk} (h : Owns w base l) (k : Nat) {v : Value} {X : List Value} (e : l[k]? = some (v, X)) : ArgV w v X := (h.at_ k e).argV
end Go.Proofs.YtaboodioabopnaaGreat
namespace Go.Proofs.YtaboodioabopnaaGreat
open Go.RowKit Nt
set_option linter.unusedVariables false
end Go.Proofs.YtaboodioabopnaaGreat
namespace Go.Proofs.YtaboodioabopnaaGreat
open Go.RowKit Nt
set_option linter.unusedVariables false
def eqR (s : Bool) (xs ys : List Int) (t : Bool) (us vs : List Int) : Bool := (s == t) && (decide (xs = us) && decide (ys = vs))
set_option maxRecDepth 100000 in
set_option maxHeartbeats 4000000 in
theorem l04List_any (A B : Option Addr) (n c m d : Nat) (xs ys : List Int) (w : World) (hA : VRow w A n (ints xs)) (hB : VRow w B m (ints ys)) (hn : n ≤ maxLen) (hm : m ≤ maxLen) :
   Calls Tryz.prog 91 #[.slice A n c, .slice B m d] w fun e w' => e = .returned (.bool (decide (xs = ys))) ∧ Below w.heap.size w w' := by
 unfold maxLen at hn hm
 have HL := Lib.hid (show xs.length = n by simpa [ints] using hA.1)
 have HM := Lib.hid (show ys.length = m by simpa [ints] using hB.1)
 by_cases hnm : n = m
 · subst hnm
   go_enter Tryz.func91, Tryz.ntmps91
   go_wp2
   go_loopw [13] (fun i wr => ∃ k q : Nat, k ≤ n ∧ i = .int .i64 k ∧ wr = w.drewN q ∧ xs.take k = ys.take k) (fun i _ => n - (intOf i).toNat)
   case atStart => exact ⟨0, 0, Nat.zero_le _, rfl, rfl, rfl⟩
   case round =>
     obtain ⟨k, q, hk, rfl, rfl, hdr⟩ := hrel
     have HDR := Lib.hid hdr
     clear hdr
     by_cases hlt : k < n
     · obtain ⟨g, o, rfl, hg, hc⟩ := hA.at_ hlt
       obtain ⟨g', o', rfl, hg', hc'⟩ := hB.at_ hlt
       rw [ints_get] at hc hc'
       have hix : k < xs.length := by have := HL.out; omega
       have hiy : k < ys.length := by have := HM.out; omega
       obtain ⟨x, hx⟩ : ∃ x, xs[k] = x := ⟨_, rfl⟩
       obtain ⟨y, hy⟩ : ∃ y, ys[k] = y := ⟨_, rfl⟩
       rw [hx] at hc
       rw [hy] at hc'
       have HX := Lib.hid hx
       have HY := Lib.hid hy
       clear hx hy
       by_cases hxy : x = y
       · subst hxy
         have HST := Lib.hid (show xs.take (k + 1) = ys.take (k + 1) by rw [List.take_add_one, List.take_add_one, HDR.out, List.getElem?_eq_getElem hix, List.getElem?_eq_getElem hiy, HX.out, HY.out])
         clear HX HY hix hiy
         go_wp2
         go_quiet (fail)
         go_wp2
         exact ⟨⟨k + 1, q + nq, by omega, by go_num, rfl, HST.out⟩, by simp [intOf]; omega⟩
       · have HNE := Lib.hid (show decide (xs = ys) = false by rw [decide_eq_false_iff_not]; intro e; apply hxy; rw [← HX.out, ← HY.out]; simp only [e])
         clear HX HY hix hiy
         go_wp2
         go_quiet (fail)
         go_wp2
         go_ret
         exact ⟨by rw [HNE.out]; rfl, below_drewN (below_drewN (Below.refl _ _) _) _⟩
     · have HEQ := Lib.hid (show decide (xs = ys) = true by have h1 := HDR.out; rw [List.take_of_length_le (by have := HL.out; omega), List.take_of_length_le (by have := HM.out; omega)] at h1; rw [h1]; simp)
       go_wp2
       go_ret
       exact ⟨by rw [HEQ.out]; rfl, below_drewN (Below.refl _ _) q⟩
 · have HNE := Lib.hid (show decide (xs = ys) = false by rw [decide_eq_false_iff_not]; intro e; apply hnm; rw [← HL.out, ← HM.out, e])
   have hnm2 : ¬ (n : Int) = (m : Int) := by omega
   go_enter Tryz.func91, Tryz.ntmps91
   go_wp2
   go_ret
   exact ⟨by rw [HNE.out]; rfl, Below.refl _ _⟩
set_option maxRecDepth 100000 in
set_option maxHeartbeats 4000000 in
theorem slicesEqual_any (A B : Option Addr) (n c m d : Nat) (xs ys : List Int) (w : World) (hA : VRow w A n (ints xs)) (hB : VRow w B m (ints ys)) (hn : n ≤ maxLen) (hm : m ≤ maxLen) :
   Calls Tryz.prog 96 #[.slice A n c, .slice B m d] w fun e w' => e = .returned (.bool (decide (xs = ys))) ∧ Below w.heap.size w w' := by
 unfold maxLen at hn hm
 have HL := Lib.hid (show xs.length = n by simpa [ints] using hA.1)
 have HM := Lib.hid (show ys.length = m by simpa [ints] using hB.1)
 by_cases hnm : n = m
 · subst hnm
   go_enter Tryz.func96, Tryz.ntmps96
   go_wp2
   go_loopw [13] (fun i wr => ∃ k q : Nat, k ≤ n ∧ i = .int .i64 k ∧ wr = w.drewN q ∧ xs.take k = ys.take k) (fun i _ => n - (intOf i).toNat)
   case atStart => exact ⟨0, 0, Nat.zero_le _, rfl, rfl, rfl⟩
   case round =>
     obtain ⟨k, q, hk, rfl, rfl, hdr⟩ := hrel
     have HDR := Lib.hid hdr
     clear hdr
     by_cases hlt : k < n
     · obtain ⟨g, o, rfl, hg, hc⟩ := hA.at_ hlt
       obtain ⟨g', o', rfl, hg', hc'⟩ := hB.at_ hlt
       rw [ints_get] at hc hc'
       have hix : k < xs.length := by have := HL.out; omega
       have hiy : k < ys.length := by have := HM.out; omega
       obtain ⟨x, hx⟩ : ∃ x, xs[k] = x := ⟨_, rfl⟩
       obtain ⟨y, hy⟩ : ∃ y, ys[k] = y := ⟨_, rfl⟩
       rw [hx] at hc
       rw [hy] at hc'
       have HX := Lib.hid hx
       have HY := Lib.hid hy
       clear hx hy
       by_cases hxy : x = y
       · subst hxy
         have HST := Lib.hid (show xs.take (k + 1) = ys.take (k + 1) by rw [List.take_add_one, List.take_add_one, HDR.out, List.getElem?_eq_getElem hix, List.getElem?_eq_getElem hiy, HX.out, HY.out])
         clear HX HY hix hiy
         go_wp2
         go_quiet (fail)
         go_wp2
         exact ⟨⟨k + 1, q + nq, by omega, by go_num, rfl, HST.out⟩, by simp [intOf]; omega⟩
       · have HNE := Lib.hid (show decide (xs = ys) = false by rw [decide_eq_false_iff_not]; intro e; apply hxy; rw [← HX.out, ← HY.out]; simp only [e])
         clear HX HY hix hiy
         go_wp2
         go_quiet (fail)
         go_wp2
         go_ret
         exact ⟨by rw [HNE.out]; rfl, below_drewN (below_drewN (Below.refl _ _) _) _⟩
     · have HEQ := Lib.hid (show decide (xs = ys) = true by have h1 := HDR.out; rw [List.take_of_length_le (by have := HL.out; omega), List.take_of_length_le (by have := HM.out; omega)] at h1; rw [h1]; simp)
       go_wp2
       go_ret
       exact ⟨by rw [HEQ.out]; rfl, below_drewN (Below.refl _ _) q⟩
 · have HNE := Lib.hid (show decide (xs = ys) = false by rw [decide_eq_false_iff_not]; intro e; apply hnm; rw [← HL.out, ← HM.out, e])
   have hnm2 : ¬ (n : Int) = (m : Int) := by omega
   go_enter Tryz.func96, Tryz.ntmps96
   go_wp2
   go_ret
   exact ⟨by rw [HNE.out]; rfl, Below.refl _ _⟩
set_option maxRecDepth 100000 in
set_option maxHeartbeats 4000000 in
theorem ratEqual_spec (s : Bool) (A : Option Addr) (n c : Nat) (xs : List Int) (B : Option Addr) (m d : Nat) (ys : List Int) (t : Bool) (C : Option Addr) (p q : Nat) (us : List Int) (E : Option Addr) (k l : Nat) (vs : List Int) (w : World) (hA : Arg w A n c (ints xs)) (hB : Arg w B m d (ints ys)) (hC : Arg w C p q (ints us)) (hE : Arg w E k l (ints vs)) :
   Calls Tryz.prog 54 #[.agg #[.bool s, .slice A n c, .slice B m d], .agg #[.bool t, .slice C p q, .slice E k l]] w fun e w' => e = .returned (.bool (eqR s xs ys t us vs)) ∧ Below w.heap.size w w' := by
 have HA := Lib.hid hA
 have HB := Lib.hid hB
 have HC := Lib.hid hC
 have HE := Lib.hid hE
 clear hA hB hC hE
 have HN := Lib.hid (And.intro HA.out.max (And.intro HB.out.max (And.intro HC.out.max HE.out.max)))
 by_cases hst : s = t
 · subst hst
   go_enter Tryz.func54, Tryz.ntmps54
   have HB_0 := Lib.hid (((Below.refl w.heap.size w).alloc (Nat.le_refl _) (.cells #[.bool s, .slice A n c, .slice B m d] 37)).alloc (by simp) (.cells #[.bool s, .slice C p q, .slice E k l] 37))
   have K_a_0 := Lib.hid ((HeldL.new_at w (w.heap.size) [.bool s, .slice A n c, .slice B m d] 37 (by first | rfl | simp)).alloc (.cells #[.bool s, .slice C p q, .slice E k l] 37))
   have K_b_0 := Lib.hid (HeldL.new_at (w.alloc (.cells #[.bool s, .slice A n c, .slice B m d] 37)) (w.heap.size + 1) [.bool s, .slice C p q, .slice E k l] 37 (by first | rfl | simp))
   have hne_a_b : w.heap.size ≠ w.heap.size + 1 := by omega
   have hne_b_a : w.heap.size + 1 ≠ w.heap.size := by omega
   go_wp2_with fail
   refine (l04List_any A C n c p q xs us _ (HA.out.below HB_0.out (Nat.le_refl _)).1 (HC.out.below HB_0.out (Nat.le_refl _)).1 HN.out.1 HN.out.2.2.1).mono ?_
   rintro e w1 ⟨rfl, hb⟩
   have K_a_1 := Lib.hid (K_a_0.out.after hb)
   have K_b_1 := Lib.hid (K_b_0.out.after hb)
   have HB_1 := Lib.hid (HB_0.out.trans (hb.mono HB_0.out.size))
   clear hb
   by_cases h1 : decide (xs = us) = true
   · rw [h1]
     have H1 := Lib.hid h1
     clear h1
     have hk_a_0_1 := K_a_1.out.cell 0 _ rfl
     have hk_a_1_1 := K_a_1.out.cell 1 _ rfl
     have hk_a_2_1 := K_a_1.out.cell 2 _ rfl
     have hk_b_0_1 := K_b_1.out.cell 0 _ rfl
     have hk_b_1_1 := K_b_1.out.cell 1 _ rfl
     have hk_b_2_1 := K_b_1.out.cell 2 _ rfl
     go_wp2_with fail
     refine (l04List_any B E m d k l ys vs _ (HB.out.below HB_1.out (Nat.le_refl _)).1 (HE.out.below HB_1.out (Nat.le_refl _)).1 HN.out.2.1 HN.out.2.2.2).mono ?_
     rintro e w2 ⟨rfl, hb⟩
     have K_a_2 := Lib.hid (K_a_1.out.after hb)
     have K_b_2 := Lib.hid (K_b_1.out.after hb)
     have HB_2 := Lib.hid (HB_1.out.trans (hb.mono HB_1.out.size))
     clear hb
     clear hk_a_0_1
     clear hk_a_1_1
     clear hk_a_2_1
     clear hk_b_0_1
     clear hk_b_1_1
     clear hk_b_2_1
     obtain ⟨z, hz⟩ : ∃ z, decide (ys = vs) = z := ⟨_, rfl⟩
     have HZ := Lib.hid hz
     rw [hz]
     clear hz
     go_wp2
     go_ret
     exact ⟨by unfold eqR; rw [H1.out, HZ.out]; simp, HB_2.out⟩
   · rw [Bool.not_eq_true] at h1
     rw [h1]
     have H1 := Lib.hid h1
     clear h1
     go_wp2
     go_ret
     exact ⟨by unfold eqR; rw [H1.out]; simp, HB_1.out⟩
 · have hst2 : (s == t) = false := by simpa using hst
   have HST := Lib.hid hst2
   cases s <;> cases t <;> first | (exact absurd rfl hst) | skip
   all_goals clear hst hst2
   · go_enter Tryz.func54, Tryz.ntmps54
     have HB_0 := Lib.hid (((Below.refl w.heap.size w).alloc (Nat.le_refl _) (.cells #[.bool false, .slice A n c, .slice B m d] 37)).alloc (by simp) (.cells #[.bool true, .slice C p q, .slice E k l] 37))
     have K_a_0 := Lib.hid ((HeldL.new_at w (w.heap.size) [.bool false, .slice A n c, .slice B m d] 37 (by first | rfl | simp)).alloc (.cells #[.bool true, .slice C p q, .slice E k l] 37))
     have K_b_0 := Lib.hid (HeldL.new_at (w.alloc (.cells #[.bool false, .slice A n c, .slice B m d] 37)) (w.heap.size + 1) [.bool true, .slice C p q, .slice E k l] 37 (by first | rfl | simp))
     have hne_a_b : w.heap.size ≠ w.heap.size + 1 := by omega
     have hne_b_a : w.heap.size + 1 ≠ w.heap.size := by omega
     go_wp2
     go_ret
     exact ⟨by unfold eqR; simp, HB_0.out⟩
   · go_enter Tryz.func54, Tryz.ntmps54
     have HB_0 := Lib.hid (((Below.refl w.heap.size w).alloc (Nat.le_refl _) (.cells #[.bool true, .slice A n c, .slice B m d] 37)).alloc (by simp) (.cells #[.bool false, .slice C p q, .slice E k l] 37))
     have K_a_0 := Lib.hid ((HeldL.new_at w (w.heap.size) [.bool true, .slice A n c, .slice B m d] 37 (by first | rfl | simp)).alloc (.cells #[.bool false, .slice C p q, .slice E k l] 37))
     have K_b_0 := Lib.hid (HeldL.new_at (w.alloc (.cells #[.bool true, .slice A n c, .slice B m d] 37)) (w.heap.size + 1) [.bool false, .slice C p q, .slice E k l] 37 (by first | rfl | simp))
     have hne_a_b : w.heap.size ≠ w.heap.size + 1 := by omega
     have hne_b_a : w.heap.size + 1 ≠ w.heap.size := by omega
     go_wp2
     go_ret
     exact ⟨by unfold eqR; simp, HB_0.out⟩
set_option maxRecDepth 100000 in
set_option maxHeartbeats 4000000 in
theorem ratEqual_impl (s : Bool) (A : Option Addr) (n c : Nat) (xs : List Int) (B : Option Addr) (m d : Nat) (ys : List Int) (t : Bool) (C : Option Addr) (p q : Nat) (us : List Int) (E : Option Addr) (k l : Nat) (vs : List Int) (w : World) (hA : Arg w A n c (ints xs)) (hB : Arg w B m d (ints ys)) (hC : Arg w C p q (ints us)) (hE : Arg w E k l (ints vs)) :
   Calls Tryz.prog 62 #[.agg #[.bool s, .slice A n c, .slice B m d], .agg #[.bool t, .slice C p q, .slice E k l]] w fun e w' => e = .returned (.bool (eqR s xs ys t us vs)) ∧ Below w.heap.size w w' := by
 have HA := Lib.hid hA
 have HB := Lib.hid hB
 have HC := Lib.hid hC
 have HE := Lib.hid hE
 clear hA hB hC hE
 have HN := Lib.hid (And.intro HA.out.max (And.intro HB.out.max (And.intro HC.out.max HE.out.max)))
 by_cases hst : s = t
 · subst hst
   go_enter Tryz.func62, Tryz.ntmps62
   have HB_0 := Lib.hid (((Below.refl w.heap.size w).alloc (Nat.le_refl _) (.cells #[.bool s, .slice A n c, .slice B m d] 37)).alloc (by simp) (.cells #[.bool s, .slice C p q, .slice E k l] 37))
   have K_a_0 := Lib.hid ((HeldL.new_at w (w.heap.size) [.bool s, .slice A n c, .slice B m d] 37 (by first | rfl | simp)).alloc (.cells #[.bool s, .slice C p q, .slice E k l] 37))
   have K_b_0 := Lib.hid (HeldL.new_at (w.alloc (.cells #[.bool s, .slice A n c, .slice B m d] 37)) (w.heap.size + 1) [.bool s, .slice C p q, .slice E k l] 37 (by first | rfl | simp))
   have hne_a_b : w.heap.size ≠ w.heap.size + 1 := by omega
   have hne_b_a : w.heap.size + 1 ≠ w.heap.size := by omega
   go_wp2_with fail
   refine (slicesEqual_any A C n c p q xs us _ (HA.out.below HB_0.out (Nat.le_refl _)).1 (HC.out.below HB_0.out (Nat.le_refl _)).1 HN.out.1 HN.out.2.2.1).mono ?_
   rintro e w1 ⟨rfl, hb⟩
   have K_a_1 := Lib.hid (K_a_0.out.after hb)
   have K_b_1 := Lib.hid (K_b_0.out.after hb)
   have HB_1 := Lib.hid (HB_0.out.trans (hb.mono HB_0.out.size))
   clear hb
   by_cases h1 : decide (xs = us) = true
   · rw [h1]
     have H1 := Lib.hid h1
     clear h1
     have hk_a_0_1 := K_a_1.out.cell 0 _ rfl
     have hk_a_1_1 := K_a_1.out.cell 1 _ rfl
     have hk_a_2_1 := K_a_1.out.cell 2 _ rfl
     have hk_b_0_1 := K_b_1.out.cell 0 _ rfl
     have hk_b_1_1 := K_b_1.out.cell 1 _ rfl
     have hk_b_2_1 := K_b_1.out.cell 2 _ rfl
     go_wp2_with fail
     refine (slicesEqual_any B E m d k l ys vs _ (HB.out.below HB_1.out (Nat.le_refl _)).1 (HE.out.below HB_1.out (Nat.le_refl _)).1 HN.out.2.1 HN.out.2.2.2).mono ?_
     rintro e w2 ⟨rfl, hb⟩
     have K_a_2 := Lib.hid (K_a_1.out.after hb)
     have K_b_2 := Lib.hid (K_b_1.out.after hb)
     have HB_2 := Lib.hid (HB_1.out.trans (hb.mono HB_1.out.size))
     clear hb
     clear hk_a_0_1
     clear hk_a_1_1
     clear hk_a_2_1
     clear hk_b_0_1
     clear hk_b_1_1
     clear hk_b_2_1
     obtain ⟨z, hz⟩ : ∃ z, decide (ys = vs) = z := ⟨_, rfl⟩
     have HZ := Lib.hid hz
     rw [hz]
     clear hz
     go_wp2
     go_ret
     exact ⟨by unfold eqR; rw [H1.out, HZ.out]; simp, HB_2.out⟩
   · rw [Bool.not_eq_true] at h1
     rw [h1]
     have H1 := Lib.hid h1
     clear h1
     go_wp2
     go_ret
     exact ⟨by unfold eqR; rw [H1.out]; simp, HB_1.out⟩
 · have hst2 : (s == t) = false := by simpa using hst
   have HST := Lib.hid hst2
   cases s <;> cases t <;> first | (exact absurd rfl hst) | skip
   all_goals clear hst hst2
   · go_enter Tryz.func62, Tryz.ntmps62
     have HB_0 := Lib.hid (((Below.refl w.heap.size w).alloc (Nat.le_refl _) (.cells #[.bool false, .slice A n c, .slice B m d] 37)).alloc (by simp) (.cells #[.bool true, .slice C p q, .slice E k l] 37))
     have K_a_0 := Lib.hid ((HeldL.new_at w (w.heap.size) [.bool false, .slice A n c, .slice B m d] 37 (by first | rfl | simp)).alloc (.cells #[.bool true, .slice C p q, .slice E k l] 37))
     have K_b_0 := Lib.hid (HeldL.new_at (w.alloc (.cells #[.bool false, .slice A n c, .slice B m d] 37)) (w.heap.size + 1) [.bool true, .slice C p q, .slice E k l] 37 (by first | rfl | simp))
     have hne_a_b : w.heap.size ≠ w.heap.size + 1 := by omega
     have hne_b_a : w.heap.size + 1 ≠ w.heap.size := by omega
     go_wp2
     go_ret
     exact ⟨by unfold eqR; simp, HB_0.out⟩
   · go_enter Tryz.func62, Tryz.ntmps62
     have HB_0 := Lib.hid (((Below.refl w.heap.size w).alloc (Nat.le_refl _) (.cells #[.bool true, .slice A n c, .slice B m d] 37)).alloc (by simp) (.cells #[.bool false, .slice C p q, .slice E k l] 37))
     have K_a_0 := Lib.hid ((HeldL.new_at w (w.heap.size) [.bool true, .slice A n c, .slice B m d] 37 (by first | rfl | simp)).alloc (.cells #[.bool false, .slice C p q, .slice E k l] 37))
     have K_b_0 := Lib.hid (HeldL.new_at (w.alloc (.cells #[.bool true, .slice A n c, .slice B m d] 37)) (w.heap.size + 1) [.bool false, .slice C p q, .slice E k l] 37 (by first | rfl | simp))
     have hne_a_b : w.heap.size ≠ w.heap.size + 1 := by omega
     have hne_b_a : w.heap.size + 1 ≠ w.heap.size := by omega
     go_wp2
     go_ret
     exact ⟨by unfold eqR; simp, HB_0.out⟩
end Go.Proofs.YtaboodioabopnaaGreat
