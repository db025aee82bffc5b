/- Big integers: how the model makes one (l03Make), and the program (bigIntWith). Conditions: none. -/
import Derived.Test.YtdilbhkdkppodaaProg
import Derived.Test.YtdilbhkdkppodaaBig
import Derived.Test.YtdilbhkdkppodaaNatDiv
namespace Go.Proofs.Ytdilbhkdkppodaa
open Go.RowKit Nt
set_option linter.unusedVariables false

theorem VRow.take {w : World} {A : Option Addr} {n m : Nat} {xs : List Value} (h : VRow w A n xs) (hm : m ≤ n) : VRow w A m (xs.take m) := by
  refine ⟨by have := h.1; simp; omega, fun h0 => ?_⟩
  obtain ⟨g, o, e, hg, hc⟩ := h.2 (by omega)
  refine ⟨g, o, e, hg, fun k hk => ?_⟩
  rw [hc k (by omega), List.getElem?_take_of_lt hk]
set_option maxRecDepth 100000 in
set_option maxHeartbeats 1000000 in
theorem l02Cap_row (A : Option Addr) (n c : Nat) (ds : List Nat) (w : World) (hA : VRow w A n (nats ds)) (hd : Digs ds) (hnc : n ≤ c) (hc : c ≤ maxLen) (hnil : A = none → c = 0) :
    Calls Try.prog 90 #[.slice A n c] w fun e w' => (∃ A' c', e = .returned (.slice A' (capd (val ds)).length c') ∧ VRow w A' (capd (val ds)).length (nats (capd (val ds))) ∧ (A' = none → c' = 0)) ∧ w' = w := by
  have hl : ds.length = n := by simpa [nats_len] using hA.1
  have hlen : (dig (val ds)).length ≤ 9223372036854775807 := by
    have h3 := dig_le_len hd
    unfold maxLen at hc
    omega
  have hcut := hA.take (m := (dig (val ds)).length) (by have h3 := dig_le_len hd; omega)
  rw [nats_take, take_dig hd] at hcut
  have HA := Lib.hid hA
  have HC := Lib.hid hcut
  have HD := Lib.hid hd
  have HI := Lib.hid (And.intro hnc (And.intro hc hnil))
  clear hA hd hcut hl hnc hc hnil
  go_enter Try.func90, Try.ntmps90
  go_wp2_with fail
  refine (l02Trim_any A n c ds w HA.out HD.out HI.out.1 HI.out.2.1 HI.out.2.2).mono ?_
  rintro e w1 ⟨rfl, rfl⟩
  have HK := Lib.hid (show capd (val ds) = if (dig (val ds)).length ≤ 60 then dig (val ds) else [] from rfl)
  by_cases h60 : (dig (val ds)).length ≤ 60
  · have e : capd (val ds) = dig (val ds) := by rw [HK.out, if_pos h60]
    have HE := Lib.hid e
    clear e
    obtain ⟨m, hm⟩ : ∃ m, (dig (val ds)).length = m := ⟨_, rfl⟩
    rw [hm] at h60 hlen ⊢
    have HM := Lib.hid hm
    clear hm
    go_wp2
    go_ret
    refine ⟨⟨A, c, ?_, ?_, HI.out.2.2⟩, rfl⟩
    · rw [HE.out, HM.out]; rfl
    · rw [HE.out]; exact HC.out
  · have e : capd (val ds) = [] := by rw [HK.out, if_neg h60]
    have HE := Lib.hid e
    clear e
    obtain ⟨m, hm⟩ : ∃ m, (dig (val ds)).length = m := ⟨_, rfl⟩
    rw [hm] at h60 hlen ⊢
    have HM := Lib.hid hm
    clear hm
    go_wp2
    go_ret
    refine ⟨⟨none, 0, ?_, ?_, fun _ => rfl⟩, rfl⟩
    · rw [HE.out]; rfl
    · rw [HE.out]; exact VRow.empty _ _
set_option maxRecDepth 100000 in
set_option maxHeartbeats 4000000 in
theorem l03Make_any (s : Bool) (A : Option Addr) (n c : Nat) (ds : List Nat) (w : World) (hA : VRow w A n (nats ds)) (hd : Digs ds) (hnc : n ≤ c) (hc : c ≤ maxLen) (hnil : A = none → c = 0) :
    Calls Try.prog 72 #[.bool s, .slice A n c] w (OwnRB 3 (sgZ (signed s (val ds))) (nats (magZ (signed s (val ds)))) w) := by
  obtain ⟨i0, hi, hz0, hz1, hz2⟩ := info_parts info_int
  have HSG := Lib.hid (sgZ_signed s (val ds))
  have HMG := Lib.hid (magZ_signed s (val ds))
  have HA := Lib.hid hA
  have HD := Lib.hid hd
  have HI := Lib.hid (And.intro hnc (And.intro hc hnil))
  clear hA hd hnc hc hnil
  go_enter Try.func72, Try.ntmps72
  have HW := Lib.hid ((Below.refl w.heap.size w).alloc (Nat.le_refl _) (.cells #[.bool false, .slice none 0 0] 31))
  go_wp2_with fail
  refine (l02Cap_row A n c ds _ (HA.out.below HW.out (Nat.le_refl _)) HD.out HI.out.1 HI.out.2.1 HI.out.2.2).mono ?_
  rintro e w1 ⟨⟨A1, c1, rfl, hr, hnil1⟩, rfl⟩
  have hm60 := capd_len (val ds)
  obtain ⟨ms, hms⟩ : ∃ ms, capd (val ds) = ms := ⟨_, rfl⟩
  have HMS := Lib.hid hms
  rw [hms] at hr hm60 ⊢
  clear hms
  obtain ⟨m, hm⟩ : ∃ m, ms.length = m := ⟨_, rfl⟩
  have HM := Lib.hid hm
  rw [hm] at hr hm60 ⊢
  clear hm
  have HR := Lib.hid hr
  have HNL := Lib.hid hnil1
  have HOC := Lib.hid (nats_oneCell ms)
  clear hr hnil1
  have hm1 := World.ownsRow_made (base := w.heap.size + 1) (e := 3) (size := 1) (w.alloc (.cells #[.bool false, .slice none 0 0] 31)) #[] 0 (by simp) (Nat.zero_le _) rfl
  rw [show (w.alloc (.cells #[.bool false, .slice none 0 0] 31)).heap.size = w.heap.size + 1 by simp] at hm1
  have HM1 := Lib.hid hm1
  clear hm1
  have HA1 := Lib.hid (HR.out.below ((Below.refl _ _).alloc (Nat.le_refl _) (.cells #[] 3)) (Nat.le_refl _))
  cases s
  all_goals by_cases h0 : 0 < m
  all_goals
    go_wp2_with (at_builtin; refine wpList_append_row rfl (.tmp 14) (.tmp 15) 22 rfl (w.heap.size + 1) 3 i0 _ 8 Try.underlying22 hi hz0 hz1 hz2 rfl _ 0 [] rfl HM1.out A1 m c1 (nats ms) rfl HA1.out HNL.out HOC.out (by unfold maxLen; omega) (by omega) (by simp) ?_)
  all_goals
    intro v1 w1 hown1 hgrow1
    have hb := ((Below.refl (w.heap.size + 1) (w.alloc (.cells #[.bool false, .slice none 0 0] 31))).alloc (by simp) (.cells #[] 3)).grown hgrow1 (by simp) (fun k hk => by have e9 : w.heap.size + 1 = k := Option.some.inj hk; omega)
    have hd0 : w1.cell? ⟨w.heap.size, 0, none⟩ = some (.bool false) := by rw [hb.cell (by simp)]; simp [go_sem]
    have hd1 : w1.cell? ⟨w.heap.size, 1, none⟩ = some (.slice none 0 0) := by rw [hb.cell (by simp)]; simp [go_sem]
    have hf0 : w1.frozen? ⟨w.heap.size, 0, none⟩ = false := by rw [hb.frozen (by simp)]; simp [go_sem]
    have hf1 : w1.frozen? ⟨w.heap.size, 1, none⟩ = false := by rw [hb.frozen (by simp)]; simp [go_sem]
    have HO1 := Lib.hid (OwnV.of_own hown1)
    obtain ⟨A2, c2, rfl⟩ := HO1.out.shape
    have HL := Lib.hid (nats_len ms)
    have HB1 := Lib.hid (HW.out.trans (hb.mono (by simp)))
    clear hown1 hgrow1 hb
    go_wp2
    refine bodyPost_ret (v := .agg #[.bool _, .slice A2 (nats ms).length c2]) (by simp [results, Try.results72, go_sem, hd0, hd1]; rfl) rfl ⟨.slice A2 (nats ms).length c2, ?_, ?_, ?_⟩
    · rw [HSG.out, HMS.out, HM.out]; simp [h0]
    · rw [HMG.out, HMS.out]
      exact ((HO1.out.setBelow (by simp) _).setBelow (by simp) _).based (by omega)
    · exact (HB1.out.setCell (by simp) _).setCell (by simp) _
theorem l03Make_at (s : Bool) (A : Option Addr) (n c : Nat) (ds : List Nat) (z : Int) (hz : signed s (val ds) = z) (w : World) (hA : VRow w A n (nats ds)) (hd : Digs ds) (hnc : n ≤ c) (hc : c ≤ maxLen) (hnil : A = none → c = 0) :
    Calls Try.prog 72 #[.bool s, .slice A n c] w (OwnRB 3 (sgZ z) (nats (magZ z)) w) := by
  subst hz
  exact l03Make_any s A n c ds w hA hd hnc hc hnil
set_option maxRecDepth 100000 in
set_option maxHeartbeats 1000000 in
theorem bigIntWith_any (s : Bool) (A : Option Addr) (n c : Nat) (w : World) (hn : n ≤ 9223372036854775807) :
    Calls Try.prog 92 #[.bool s, .slice A n c] w fun e w' => e = .returned (.agg #[.bool (s && decide (0 < n)), .slice A n c]) ∧ Below w.heap.size w w' := by
  go_enter Try.func92, Try.ntmps92
  cases s
  all_goals by_cases h0 : 0 < n
  all_goals
    go_wp2
    refine bodyPost_ret (v := .agg #[.bool _, .slice A n c]) (by simp [results, Try.results92, go_sem]; rfl) rfl ⟨?_, ?_⟩
    · simp [h0]
    · exact (Below.refl w.heap.size w).alloc (Nat.le_refl _) _
end Go.Proofs.Ytdilbhkdkppodaa
