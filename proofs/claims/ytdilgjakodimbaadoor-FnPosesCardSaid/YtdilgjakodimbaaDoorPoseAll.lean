/- Poses: ComposeAll of the model and of the program. Conditions: rows of at most 2^20 poses. -/
import Derived.Test.YtdilgjakodimbaaDoorPose6
import Derived.Test.YtdilgjakodimbaaDoorPoses
namespace Go.Proofs.YtdilgjakodimbaaDoor
open Go.RowKit Po
set_option linter.unusedVariables false

namespace Po
/-- One more pose composed. -/
def stp (s : (Int × Int × Int) × Bool) (p : Int × Int × Int) : (Int × Int × Int) × Bool :=
  if s.2 = true then ((cT s.1.1 s.1.2.1 s.1.2.2 p.1 p.2.1 p.2.2, cX s.1.1 s.1.2.1 s.1.2.2 p.1 p.2.1 p.2.2, cY s.1.1 s.1.2.1 s.1.2.2 p.1 p.2.1 p.2.2), cOk s.1.1 s.1.2.1 s.1.2.2 p.1 p.2.1 p.2.2) else s
/-- The first k poses composed. -/
def runP (ps : List (Int × Int × Int)) (k : Nat) : (Int × Int × Int) × Bool := (ps.take k).foldl stp ((0, 0, 0), true)
/-- All poses composed. -/
def allP (ps : List (Int × Int × Int)) : Int × Int × Int := (ps.foldl stp ((0, 0, 0), true)).1
theorem runP_zero (ps : List (Int × Int × Int)) : runP ps 0 = ((0, 0, 0), true) := rfl
theorem runP_succ (ps : List (Int × Int × Int)) (k : Nat) (h : k < ps.length) : runP ps (k + 1) = stp (runP ps k) (ps.getD k (0, 0, 0)) := by
  unfold runP
  rw [List.take_add_one, List.foldl_append, List.getElem?_eq_getElem h]
  simp [List.getD, h]
theorem stuck (l : List (Int × Int × Int)) (s : (Int × Int × Int) × Bool) (h : s.2 = false) : l.foldl stp s = s := by
  induction l with
  | nil => rfl
  | cons p r ih => rw [List.foldl_cons, show stp s p = s by simp [stp, h], ih]
theorem allP_run (ps : List (Int × Int × Int)) : allP ps = (runP ps ps.length).1 := by simp [allP, runP]
theorem allP_fail (ps : List (Int × Int × Int)) (k : Nat) (h : (runP ps k).2 = false) : allP ps = (runP ps k).1 := by
  have e : ps.foldl stp ((0, 0, 0), true) = (ps.drop k).foldl stp (runP ps k) := by
    unfold runP
    rw [← List.foldl_append, List.take_append_drop]
  unfold allP
  rw [e, stuck _ _ h]
theorem runP_yes {ps : List (Int × Int × Int)} {k : Nat} {T X Y a b c : Int} (h : k < ps.length) (hr : runP ps k = ((T, X, Y), true)) (h0 : (ps.getD k (0, 0, 0)).1 = a) (h1 : (ps.getD k (0, 0, 0)).2.1 = b) (h2 : (ps.getD k (0, 0, 0)).2.2 = c) :
    runP ps (k + 1) = ((cT T X Y a b c, cX T X Y a b c, cY T X Y a b c), cOk T X Y a b c) := by
  rw [runP_succ ps k h, hr]
  simp only [stp, if_true, h0, h1, h2]
theorem allP_no {ps : List (Int × Int × Int)} {k : Nat} {T X Y a b c : Int} (hr : runP ps (k + 1) = ((cT T X Y a b c, cX T X Y a b c, cY T X Y a b c), cOk T X Y a b c)) (hk : cOk T X Y a b c = false) : allP ps = (0, 0, 0) := by
  obtain ⟨e1, e2, e3⟩ := c_no hk
  rw [allP_fail ps (k + 1) (by rw [hr]; exact hk), hr, e1, e2, e3]
end Po
set_option maxRecDepth 100000 in
set_option maxHeartbeats 4000000 in
theorem composeAll_spec (A : Option Addr) (n c : Nat) (ps : List (Int × Int × Int)) (w : World) (hA : PRow w A n ps) (hn : n ≤ 1048576) :
    Calls Tryd.prog 32 #[.slice A n c] w (IsP (allP ps).1 (allP ps).2.1 (allP ps).2.2 w) := by
  have HLN := Lib.hid hA.1
  have HA := Lib.hid hA
  clear hA
  obtain ⟨ra, hra⟩ : ∃ z, (allP ps).1 = z := ⟨_, rfl⟩
  rw [hra]
  have Hra := Lib.hid hra
  clear hra
  obtain ⟨rb, hrb⟩ : ∃ z, (allP ps).2.1 = z := ⟨_, rfl⟩
  rw [hrb]
  have Hrb := Lib.hid hrb
  clear hrb
  obtain ⟨rc, hrc⟩ : ∃ z, (allP ps).2.2 = z := ⟨_, rfl⟩
  rw [hrc]
  have Hrc := Lib.hid hrc
  clear hrc
  have HB0 := Lib.hid (((Below.refl w.heap.size w).alloc (Nat.le_refl _) (.cells #[.int .i64 0, .int .i64 0, .int .i64 0] 24)).alloc (by simp) (.cells #[.int .i64 0, .int .i64 0, .int .i64 0] 24))
  have K0 := Lib.hid ((HeldL.new_at w w.heap.size [.int .i64 0, .int .i64 0, .int .i64 0] 24 rfl).alloc (.cells #[.int .i64 0, .int .i64 0, .int .i64 0] 24))
  have K1 := Lib.hid (HeldL.new_at (w.alloc (.cells #[.int .i64 0, .int .i64 0, .int .i64 0] 24)) (w.heap.size + 1) [.int .i64 0, .int .i64 0, .int .i64 0] 24 (by simp))
  go_enter Tryd.func32, Tryd.ntmps32
  go_wp2
  go_loopw [11] (fun i wr => ∃ (k : Nat) (T X Y : Int), k ≤ n ∧ i = .int .i64 k ∧ runP ps k = ((T, X, Y), true) ∧ HeldL wr w.heap.size [.int .i64 0, .int .i64 0, .int .i64 0] ∧ HeldL wr (w.heap.size + 1) [.int .i64 T, .int .i64 X, .int .i64 Y] ∧ Below w.heap.size w wr) (fun i _ => n - (intOf i).toNat)
  case atStart => exact ⟨0, 0, 0, 0, Nat.zero_le _, rfl, runP_zero ps, K0.out, K1.out, HB0.out⟩
  case round =>
    obtain ⟨k, T, X, Y, hk, rfl, hr, hk0, hk1, hb⟩ := hrel
    have HR := Lib.hid hr
    have KR := Lib.hid hk0
    have KS := Lib.hid hk1
    have HB := Lib.hid hb
    clear hr hk0 hk1 hb
    have s0 := KS.out.cell 0 _ rfl
    have s1 := KS.out.cell 1 _ rfl
    have s2 := KS.out.cell 2 _ rfl
    by_cases hlt : k < n
    · obtain ⟨g, o, rfl, hg, hc0, hc1, hc2⟩ := (HA.out.below HB.out (Nat.le_refl _)).at_ hlt
      obtain ⟨x0, hx0⟩ : ∃ x, (ps.getD k (0, 0, 0)).1 = x := ⟨_, rfl⟩
      obtain ⟨x1, hx1⟩ : ∃ x, (ps.getD k (0, 0, 0)).2.1 = x := ⟨_, rfl⟩
      obtain ⟨x2, hx2⟩ : ∃ x, (ps.getD k (0, 0, 0)).2.2 = x := ⟨_, rfl⟩
      have HN := Lib.hid (runP_yes (by rw [HLN.out]; exact hlt) HR.out hx0 hx1 hx2)
      rw [hx0] at hc0
      rw [hx1] at hc1
      rw [hx2] at hc2
      clear hx0 hx1 hx2
      have hls := KS.out.lt
      go_wp2_with fail
      clear s0 s1 s2 hc0 hc1 hc2 hls
      have HB1 := Lib.hid (HB.out.alloc HB.out.size (.cells #[.int .i64 x0, .int .i64 x1, .int .i64 x2] 24))
      have KR1 := Lib.hid (KR.out.alloc (.cells #[.int .i64 x0, .int .i64 x1, .int .i64 x2] 24))
      have KS1 := Lib.hid (KS.out.alloc (.cells #[.int .i64 x0, .int .i64 x1, .int .i64 x2] 24))
      clear HB KR KS
      refine (composed_spec T X Y x0 x1 x2 _).mono ?_
      rintro e w2 ⟨rfl, hb⟩
      have HB2 := Lib.hid (HB1.out.trans (hb.mono HB1.out.size))
      have KR2 := Lib.hid (KR1.out.after hb)
      have KS2 := Lib.hid (KS1.out.after hb)
      clear hb HB1 KR1 KS1
      by_cases hck : cOk T X Y x0 x1 x2 = true
      · rw [hck]
        obtain ⟨ct, hct⟩ : ∃ z, cT T X Y x0 x1 x2 = z := ⟨_, rfl⟩
        obtain ⟨cx, hcx⟩ : ∃ z, cX T X Y x0 x1 x2 = z := ⟨_, rfl⟩
        obtain ⟨cy, hcy⟩ : ∃ z, cY T X Y x0 x1 x2 = z := ⟨_, rfl⟩
        rw [hct, hcx, hcy]
        have hn2 := HN.out
        rw [hct, hcx, hcy, hck] at hn2
        have HN2 := Lib.hid hn2
        clear hct hcx hcy hck hn2 HN
        have s0 := KS2.out.cell 0 _ rfl
        have s1 := KS2.out.cell 1 _ rfl
        have s2 := KS2.out.cell 2 _ rfl
        have f0 := KS2.out.froz 0 _ rfl
        have f1 := KS2.out.froz 1 _ rfl
        have f2 := KS2.out.froz 2 _ rfl
        have hls := KS2.out.lt
        go_wp2
        have T1 := ((HB2.out.setCell (p := ⟨w.heap.size + 1, 0, none⟩) (Nat.le_succ _) (.int .i64 ct)).setCell (p := ⟨w.heap.size + 1, 1, none⟩) (Nat.le_succ _) (.int .i64 cx)).setCell (p := ⟨w.heap.size + 1, 2, none⟩) (Nat.le_succ _) (.int .i64 cy)
        refine ⟨⟨k + 1, ct, cx, cy, by omega, by go_num, HN2.out, ?_, ?_, T1.alloc T1.size _⟩, by simp [intOf]; omega⟩
        · exact (((KR2.out.setOther (by simp) _).setOther (by simp) _).setOther (by simp) _).alloc _
        · exact (((KS2.out.set 0 (.int .i64 ct) _ rfl).set 1 (.int .i64 cx) _ rfl).set 2 (.int .i64 cy) _ rfl).alloc _
      · rw [Bool.not_eq_true] at hck
        rw [hck]
        have ha := allP_no HN.out hck
        obtain ⟨e1, e2, e3⟩ := c_no hck
        rw [e1, e2, e3]
        have E1 := Lib.hid (show 0 = ra by rw [← Hra.out, ha])
        have E2 := Lib.hid (show 0 = rb by rw [← Hrb.out, ha])
        have E3 := Lib.hid (show 0 = rc by rw [← Hrc.out, ha])
        clear e1 e2 e3 hck ha HN
        have r0 := KR2.out.cell 0 _ rfl
        have r1 := KR2.out.cell 1 _ rfl
        have r2 := KR2.out.cell 2 _ rfl
        have f0 := KR2.out.froz 0 _ rfl
        have f1 := KR2.out.froz 1 _ rfl
        have f2 := KR2.out.froz 2 _ rfl
        have hlr := KR2.out.lt
        go_wp2
        have T1 := ((HB2.out.setCell (p := ⟨w.heap.size, 0, none⟩) (Nat.le_refl _) (.int .i64 0)).setCell (p := ⟨w.heap.size, 1, none⟩) (Nat.le_refl _) (.int .i64 0)).setCell (p := ⟨w.heap.size, 2, none⟩) (Nat.le_refl _) (.int .i64 0)
        exact bodyPost_ret (v := .agg #[.int .i64 0, .int .i64 0, .int .i64 0]) (by simp [results, Tryd.results32, go_sem, r0, r1, r2, hlr]) rfl ⟨by rw [← E1.out, ← E2.out, ← E3.out], T1.alloc T1.size _⟩
    · obtain rfl : k = n := by omega
      have ha : allP ps = (T, X, Y) := by rw [allP_run, HLN.out, HR.out]
      have E1 := Lib.hid (show T = ra by rw [← Hra.out, ha])
      have E2 := Lib.hid (show X = rb by rw [← Hrb.out, ha])
      have E3 := Lib.hid (show Y = rc by rw [← Hrc.out, ha])
      clear ha
      have r0 := KR.out.cell 0 _ rfl
      have r1 := KR.out.cell 1 _ rfl
      have r2 := KR.out.cell 2 _ rfl
      have f0 := KR.out.froz 0 _ rfl
      have f1 := KR.out.froz 1 _ rfl
      have f2 := KR.out.froz 2 _ rfl
      go_wp2
      refine bodyPost_ret (v := .agg #[.int .i64 T, .int .i64 X, .int .i64 Y]) (by simp [results, Tryd.results32, go_sem, r0, r1, r2]) rfl ⟨by rw [E1.out, E2.out, E3.out], ?_⟩
      exact ((HB.out.setCell (Nat.le_refl _) _).setCell (Nat.le_refl _) _).setCell (Nat.le_refl _) _
set_option maxRecDepth 100000 in
set_option maxHeartbeats 4000000 in
theorem composeAll_impl (A : Option Addr) (n c : Nat) (ps : List (Int × Int × Int)) (w : World) (hA : PRow w A n ps) (hn : n ≤ 1048576) (hl : LaidQ w) :
    Calls Tryd.prog 18 #[.slice A n c] w (IsP (allP ps).1 (allP ps).2.1 (allP ps).2.2 w) := by
  have HLN := Lib.hid hA.1
  have HA := Lib.hid hA
  clear hA
  have HL := Lib.hid hl
  clear hl
  obtain ⟨ra, hra⟩ : ∃ z, (allP ps).1 = z := ⟨_, rfl⟩
  rw [hra]
  have Hra := Lib.hid hra
  clear hra
  obtain ⟨rb, hrb⟩ : ∃ z, (allP ps).2.1 = z := ⟨_, rfl⟩
  rw [hrb]
  have Hrb := Lib.hid hrb
  clear hrb
  obtain ⟨rc, hrc⟩ : ∃ z, (allP ps).2.2 = z := ⟨_, rfl⟩
  rw [hrc]
  have Hrc := Lib.hid hrc
  clear hrc
  have HB0 := Lib.hid (((Below.refl w.heap.size w).alloc (Nat.le_refl _) (.cells #[.int .i64 0, .int .i64 0, .int .i64 0] 24)).alloc (by simp) (.cells #[.int .i64 0, .int .i64 0, .int .i64 0] 24))
  have K0 := Lib.hid ((HeldL.new_at w w.heap.size [.int .i64 0, .int .i64 0, .int .i64 0] 24 rfl).alloc (.cells #[.int .i64 0, .int .i64 0, .int .i64 0] 24))
  have K1 := Lib.hid (HeldL.new_at (w.alloc (.cells #[.int .i64 0, .int .i64 0, .int .i64 0] 24)) (w.heap.size + 1) [.int .i64 0, .int .i64 0, .int .i64 0] 24 (by simp))
  go_enter Tryd.func18, Tryd.ntmps18
  go_wp2
  go_loopw [11] (fun i wr => ∃ (k : Nat) (T X Y : Int), k ≤ n ∧ i = .int .i64 k ∧ runP ps k = ((T, X, Y), true) ∧ HeldL wr w.heap.size [.int .i64 0, .int .i64 0, .int .i64 0] ∧ HeldL wr (w.heap.size + 1) [.int .i64 T, .int .i64 X, .int .i64 Y] ∧ Below w.heap.size w wr) (fun i _ => n - (intOf i).toNat)
  case atStart => exact ⟨0, 0, 0, 0, Nat.zero_le _, rfl, runP_zero ps, K0.out, K1.out, HB0.out⟩
  case round =>
    obtain ⟨k, T, X, Y, hk, rfl, hr, hk0, hk1, hb⟩ := hrel
    have HR := Lib.hid hr
    have KR := Lib.hid hk0
    have KS := Lib.hid hk1
    have HB := Lib.hid hb
    clear hr hk0 hk1 hb
    have s0 := KS.out.cell 0 _ rfl
    have s1 := KS.out.cell 1 _ rfl
    have s2 := KS.out.cell 2 _ rfl
    by_cases hlt : k < n
    · obtain ⟨g, o, rfl, hg, hc0, hc1, hc2⟩ := (HA.out.below HB.out (Nat.le_refl _)).at_ hlt
      obtain ⟨x0, hx0⟩ : ∃ x, (ps.getD k (0, 0, 0)).1 = x := ⟨_, rfl⟩
      obtain ⟨x1, hx1⟩ : ∃ x, (ps.getD k (0, 0, 0)).2.1 = x := ⟨_, rfl⟩
      obtain ⟨x2, hx2⟩ : ∃ x, (ps.getD k (0, 0, 0)).2.2 = x := ⟨_, rfl⟩
      have HN := Lib.hid (runP_yes (by rw [HLN.out]; exact hlt) HR.out hx0 hx1 hx2)
      rw [hx0] at hc0
      rw [hx1] at hc1
      rw [hx2] at hc2
      clear hx0 hx1 hx2
      have hls := KS.out.lt
      go_wp2_with fail
      clear s0 s1 s2 hc0 hc1 hc2 hls
      have HB1 := Lib.hid (HB.out.alloc HB.out.size (.cells #[.int .i64 x0, .int .i64 x1, .int .i64 x2] 24))
      have KR1 := Lib.hid (KR.out.alloc (.cells #[.int .i64 x0, .int .i64 x1, .int .i64 x2] 24))
      have KS1 := Lib.hid (KS.out.alloc (.cells #[.int .i64 x0, .int .i64 x1, .int .i64 x2] 24))
      clear HB KR KS
      refine (composed_any T X Y x0 x1 x2 _ (HL.out.below HB1.out)).mono ?_
      rintro e w2 ⟨rfl, hb⟩
      have HB2 := Lib.hid (HB1.out.trans (hb.mono HB1.out.size))
      have KR2 := Lib.hid (KR1.out.after hb)
      have KS2 := Lib.hid (KS1.out.after hb)
      clear hb HB1 KR1 KS1
      by_cases hck : cOk T X Y x0 x1 x2 = true
      · rw [hck]
        obtain ⟨ct, hct⟩ : ∃ z, cT T X Y x0 x1 x2 = z := ⟨_, rfl⟩
        obtain ⟨cx, hcx⟩ : ∃ z, cX T X Y x0 x1 x2 = z := ⟨_, rfl⟩
        obtain ⟨cy, hcy⟩ : ∃ z, cY T X Y x0 x1 x2 = z := ⟨_, rfl⟩
        rw [hct, hcx, hcy]
        have hn2 := HN.out
        rw [hct, hcx, hcy, hck] at hn2
        have HN2 := Lib.hid hn2
        clear hct hcx hcy hck hn2 HN
        have s0 := KS2.out.cell 0 _ rfl
        have s1 := KS2.out.cell 1 _ rfl
        have s2 := KS2.out.cell 2 _ rfl
        have f0 := KS2.out.froz 0 _ rfl
        have f1 := KS2.out.froz 1 _ rfl
        have f2 := KS2.out.froz 2 _ rfl
        have hls := KS2.out.lt
        go_wp2
        have T1 := ((HB2.out.setCell (p := ⟨w.heap.size + 1, 0, none⟩) (Nat.le_succ _) (.int .i64 ct)).setCell (p := ⟨w.heap.size + 1, 1, none⟩) (Nat.le_succ _) (.int .i64 cx)).setCell (p := ⟨w.heap.size + 1, 2, none⟩) (Nat.le_succ _) (.int .i64 cy)
        refine ⟨⟨k + 1, ct, cx, cy, by omega, by go_num, HN2.out, ?_, ?_, T1.alloc T1.size _⟩, by simp [intOf]; omega⟩
        · exact (((KR2.out.setOther (by simp) _).setOther (by simp) _).setOther (by simp) _).alloc _
        · exact (((KS2.out.set 0 (.int .i64 ct) _ rfl).set 1 (.int .i64 cx) _ rfl).set 2 (.int .i64 cy) _ rfl).alloc _
      · rw [Bool.not_eq_true] at hck
        rw [hck]
        have ha := allP_no HN.out hck
        obtain ⟨e1, e2, e3⟩ := c_no hck
        rw [e1, e2, e3]
        have E1 := Lib.hid (show 0 = ra by rw [← Hra.out, ha])
        have E2 := Lib.hid (show 0 = rb by rw [← Hrb.out, ha])
        have E3 := Lib.hid (show 0 = rc by rw [← Hrc.out, ha])
        clear e1 e2 e3 hck ha HN
        have r0 := KR2.out.cell 0 _ rfl
        have r1 := KR2.out.cell 1 _ rfl
        have r2 := KR2.out.cell 2 _ rfl
        have f0 := KR2.out.froz 0 _ rfl
        have f1 := KR2.out.froz 1 _ rfl
        have f2 := KR2.out.froz 2 _ rfl
        have hlr := KR2.out.lt
        go_wp2
        have T1 := ((HB2.out.setCell (p := ⟨w.heap.size, 0, none⟩) (Nat.le_refl _) (.int .i64 0)).setCell (p := ⟨w.heap.size, 1, none⟩) (Nat.le_refl _) (.int .i64 0)).setCell (p := ⟨w.heap.size, 2, none⟩) (Nat.le_refl _) (.int .i64 0)
        exact bodyPost_ret (v := .agg #[.int .i64 0, .int .i64 0, .int .i64 0]) (by simp [results, Tryd.results18, go_sem, r0, r1, r2, hlr]) rfl ⟨by rw [← E1.out, ← E2.out, ← E3.out], T1.alloc T1.size _⟩
    · obtain rfl : k = n := by omega
      have ha : allP ps = (T, X, Y) := by rw [allP_run, HLN.out, HR.out]
      have E1 := Lib.hid (show T = ra by rw [← Hra.out, ha])
      have E2 := Lib.hid (show X = rb by rw [← Hrb.out, ha])
      have E3 := Lib.hid (show Y = rc by rw [← Hrc.out, ha])
      clear ha
      have r0 := KR.out.cell 0 _ rfl
      have r1 := KR.out.cell 1 _ rfl
      have r2 := KR.out.cell 2 _ rfl
      have f0 := KR.out.froz 0 _ rfl
      have f1 := KR.out.froz 1 _ rfl
      have f2 := KR.out.froz 2 _ rfl
      go_wp2
      refine bodyPost_ret (v := .agg #[.int .i64 T, .int .i64 X, .int .i64 Y]) (by simp [results, Tryd.results18, go_sem, r0, r1, r2]) rfl ⟨by rw [E1.out, E2.out, E3.out], ?_⟩
      exact ((HB.out.setCell (Nat.le_refl _) _).setCell (Nat.le_refl _) _).setCell (Nat.le_refl _) _
end Go.Proofs.YtdilgjakodimbaaDoor
