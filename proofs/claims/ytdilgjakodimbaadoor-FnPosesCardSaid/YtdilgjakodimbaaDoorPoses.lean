/- Slices of poses: how they read, and the laws' own helpers szPoseS, toPoseS, eqPoseS. Conditions: none. -/
import Derived.Test.YtdilgjakodimbaaDoorPose1
namespace Go.Proofs.YtdilgjakodimbaaDoor
open Go.RowKit Po
set_option linter.unusedVariables false

/-- The slice reads as these poses, three cells an element. -/
def PRow (w : World) (A : Option Addr) (n : Nat) (ps : List (Int × Int × Int)) : Prop :=
  ps.length = n ∧ (0 < n → ∃ g o, A = some ⟨g, o, none⟩ ∧ g < w.heap.size ∧ ∀ k (hk : k < n), w.cell? ⟨g, o + k * 3, none⟩ = some (.int .i64 (ps.getD k (0, 0, 0)).1) ∧ w.cell? ⟨g, o + k * 3 + 1, none⟩ = some (.int .i64 (ps.getD k (0, 0, 0)).2.1) ∧ w.cell? ⟨g, o + k * 3 + 2, none⟩ = some (.int .i64 (ps.getD k (0, 0, 0)).2.2))
theorem PRow.below {w w' : World} {A : Option Addr} {n B : Nat} {ps : List (Int × Int × Int)} (h : PRow w A n ps) (hb : Below B w w') (hB : w.heap.size ≤ B) : PRow w' A n ps := by
  refine ⟨h.1, fun hn => ?_⟩
  obtain ⟨g, o, rfl, hg, hc⟩ := h.2 hn
  refine ⟨g, o, rfl, Nat.lt_of_lt_of_le hg hb.size, fun k hk => ?_⟩
  obtain ⟨c0, c1, c2⟩ := hc k hk
  exact ⟨(hb.cell (p := ⟨g, o + k * 3, none⟩) (Nat.lt_of_lt_of_le hg hB)).trans c0, (hb.cell (p := ⟨g, o + k * 3 + 1, none⟩) (Nat.lt_of_lt_of_le hg hB)).trans c1, (hb.cell (p := ⟨g, o + k * 3 + 2, none⟩) (Nat.lt_of_lt_of_le hg hB)).trans c2⟩
theorem PRow.after {w w' : World} {A : Option Addr} {n : Nat} {ps : List (Int × Int × Int)} (h : PRow w A n ps) (hb : Below w.heap.size w w') : PRow w' A n ps := h.below hb (Nat.le_refl _)
theorem PRow.drew {w : World} {A : Option Addr} {n : Nat} {ps : List (Int × Int × Int)} (h : PRow w A n ps) : PRow w.drew A n ps := h
theorem PRow.at_ {w : World} {A : Option Addr} {n k : Nat} {ps : List (Int × Int × Int)} (h : PRow w A n ps) (hk : k < n) : ∃ g o, A = some ⟨g, o, none⟩ ∧ g < w.heap.size ∧ w.cell? ⟨g, o + k * 3, none⟩ = some (.int .i64 (ps.getD k (0, 0, 0)).1) ∧ w.cell? ⟨g, o + k * 3 + 1, none⟩ = some (.int .i64 (ps.getD k (0, 0, 0)).2.1) ∧ w.cell? ⟨g, o + k * 3 + 2, none⟩ = some (.int .i64 (ps.getD k (0, 0, 0)).2.2) := by
  obtain ⟨g, o, e, hg, hc⟩ := h.2 (by omega)
  exact ⟨g, o, e, hg, hc k hk⟩
/-- A slice of poses that came in. -/
def IsPoses (w : World) (a : Option Addr) (len cap : Nat) (zs : List (Int × Int × Int)) : Prop := PRow w a len zs ∧ len ≤ cap ∧ cap ≤ maxLen
/-- The block b holds m cells, the i-th is f i, and may be written to. -/
structure PBlk (u : World) (b m : Nat) (f : Nat → Value) : Prop where
  lt : b < u.heap.size
  cell : ∀ i, i < m → u.cell? ⟨b, i, none⟩ = some (f i)
  froz : ∀ i, i < m → u.frozen? ⟨b, i, none⟩ = false
section
variable {u u' : World} {b m : Nat} {f g : Nat → Value}
theorem PBlk.same (h : PBlk u b m f) (hs : u.heap.size ≤ u'.heap.size) (e : u'.heap[b]? = u.heap[b]?) : PBlk u' b m f :=
  ⟨Nat.lt_of_lt_of_le h.lt hs, fun j hj => (World.cell?_of_block (w := u) (a := ⟨b, j, none⟩) e).trans (h.cell j hj), fun j hj => (World.frozen?_of_block (w := u) (a := ⟨b, j, none⟩) e).trans (h.froz j hj)⟩
theorem PBlk.after (h : PBlk u b m f) (hb : Below u.heap.size u u') : PBlk u' b m f := h.same hb.size (hb.block b h.lt)
theorem PBlk.congr (h : PBlk u b m f) (e : ∀ i, i < m → f i = g i) : PBlk u b m g := ⟨h.lt, fun i hi => by rw [h.cell i hi, e i hi], h.froz⟩
theorem PBlk.set (h : PBlk u b m f) (j : Nat) (v : Value) (hj : j < m) : PBlk (u.setCell ⟨b, j, none⟩ v) b m (fun i => if i = j then v else f i) := by
  refine ⟨by simp; exact h.lt, fun i hi => ?_, fun i hi => ?_⟩
  · by_cases e : i = j
    · subst e
      rw [World.cell?_setCell_same _ _ _ (h.cell i hj), if_pos rfl]
    · rw [if_neg e]
      exact (World.cell?_setCell_other _ _ _ _ (by simp only [ne_eq, Addr.mk.injEq, not_and]; omega)).trans (h.cell i hi)
  · rw [World.frozen?_setCell]
    exact h.froz i hi
end
/-- The i-th cell of a row of poses. -/
def pc (ps : List (Int × Int × Int)) (i : Nat) : Value := if i % 3 = 0 then .int .i64 (ps.getD (i / 3) (0, 0, 0)).1 else if i % 3 = 1 then .int .i64 (ps.getD (i / 3) (0, 0, 0)).2.1 else .int .i64 (ps.getD (i / 3) (0, 0, 0)).2.2
theorem pc0 (ps : List (Int × Int × Int)) (k : Nat) : pc ps (k * 3) = .int .i64 (ps.getD k (0, 0, 0)).1 := by
  unfold pc
  rw [if_pos (by omega), show k * 3 / 3 = k by omega]
theorem pc1 (ps : List (Int × Int × Int)) (k : Nat) : pc ps (k * 3 + 1) = .int .i64 (ps.getD k (0, 0, 0)).2.1 := by
  unfold pc
  rw [if_neg (by omega), if_pos (by omega), show (k * 3 + 1) / 3 = k by omega]
theorem pc2 (ps : List (Int × Int × Int)) (k : Nat) : pc ps (k * 3 + 2) = .int .i64 (ps.getD k (0, 0, 0)).2.2 := by
  unfold pc
  rw [if_neg (by omega), if_neg (by omega), show (k * 3 + 2) / 3 = k by omega]
theorem PBlk.row {u : World} {b n : Nat} {ps : List (Int × Int × Int)} (h : PBlk u b (n * 3) (pc ps)) (hl : ps.length = n) : PRow u (some ⟨b, 0, none⟩) n ps :=
  ⟨hl, fun _ => ⟨b, 0, rfl, h.lt, fun k hk => ⟨by rw [Nat.zero_add, h.cell _ (by omega), pc0], by rw [Nat.zero_add, h.cell _ (by omega), pc1], by rw [Nat.zero_add, h.cell _ (by omega), pc2]⟩⟩⟩
/-- What a function leaves that returns poses in a new row. -/
def OwnPs (ps : List (Int × Int × Int)) (w : World) (e : Ending) (w' : World) : Prop := ∃ b, e = .returned (.slice (some ⟨b, 0, none⟩) ps.length ps.length) ∧ PRow w' (some ⟨b, 0, none⟩) ps.length ps ∧ Below w.heap.size w w'
/-- A row of which the first j poses have been written. -/
def half (ps : List (Int × Int × Int)) (z : Nat → Value) (j i : Nat) : Value := if i < j * 3 then pc ps i else z i
theorem half_step (ps : List (Int × Int × Int)) (z : Nat → Value) (j i : Nat) : (if i = j * 3 + 2 then Value.int .i64 (ps.getD j (0, 0, 0)).2.2 else if i = j * 3 + 1 then Value.int .i64 (ps.getD j (0, 0, 0)).2.1 else if i = j * 3 then Value.int .i64 (ps.getD j (0, 0, 0)).1 else half ps z j i) = half ps z (j + 1) i := by
  unfold half
  by_cases h2 : i = j * 3 + 2
  · rw [if_pos h2, if_pos (by omega), h2, pc2]
  · rw [if_neg h2]
    by_cases h1 : i = j * 3 + 1
    · rw [if_pos h1, if_pos (by omega), h1, pc1]
    · rw [if_neg h1]
      by_cases h0 : i = j * 3
      · rw [if_pos h0, if_pos (by omega), h0, pc0]
      · rw [if_neg h0]
        by_cases hl : i < j * 3
        · rw [if_pos hl, if_pos (by omega)]
        · rw [if_neg hl, if_neg (by omega)]
/-- What is left of k behind n. -/
def szP (k : Int) (n : Nat) : Int := if k < n then -1 else k - n
set_option maxRecDepth 100000 in
theorem szPoseS_any (A : Option Addr) (n c : Nat) (k : Int) (w : World) (h0 : 0 ≤ k) (h1 : k ≤ 1048576) (hn : n ≤ 9223372036854775807) :
    Calls Tryd.prog 31 #[.slice A n c, .int .i64 k] w fun e w' => e = .returned (.int .i64 (szP k n)) ∧ w' = w := by
  by_cases h : k < n
  · rw [show szP k n = -1 from if_pos h]
    go_enter Tryd.func31, Tryd.ntmps31
    go_wp2
    go_ret
    exact ⟨rfl, rfl⟩
  · rw [show szP k n = k - n from if_neg h]
    go_enter Tryd.func31, Tryd.ntmps31
    go_wp2
    go_ret
    exact ⟨rfl, rfl⟩
theorem info_pose : (Tryd.prog.info? 24).map (fun i => (i.zero, i.size, i.bytes)) = some (some (.agg #[.int .i64 0, .int .i64 0, .int .i64 0]), 3, 24) := by kernel_rfl
set_option maxRecDepth 100000 in
set_option maxHeartbeats 1000000 in
theorem toPoseS_any (A : Option Addr) (n c : Nat) (ps : List (Int × Int × Int)) (w : World) (hA : PRow w A n ps) (hn : n ≤ 1048576) :
    Calls Tryd.prog 33 #[.slice A n c] w (OwnPs ps w) := by
  obtain ⟨i0, hi, hz0, hz1, hz2⟩ := info_parts info_pose
  have HL := Lib.hid hA.1
  have HA := Lib.hid hA
  clear hA
  go_enter Tryd.func33, Tryd.ntmps33
  go_wp2_with (at_make; refine wpList_make_full _ rfl _ _ _ rfl w.heap.size 24 i0 _ 3 Tryd.underlying32 hi hz0 hz1 .i64 .i64 _ _ n rfl rfl rfl rfl (by rw [hz2]; omega) (by unfold maxLen; omega) (Nat.le_refl _) ?_; intro w1 hown hgrow)
  obtain ⟨zs, hzs⟩ : ∃ zs, (madeCells (Value.agg #[.int .i64 0, .int .i64 0, .int .i64 0]).cells (n * 3)).toList = zs := ⟨_, rfl⟩
  rw [hzs] at hown
  have hlz : zs.length = n * 3 := by simpa using hown.1
  have hP : PBlk w1 w.heap.size (n * 3) (half ps (fun i => zs.getD i .nilIface) 0) := by
    refine ⟨(hown.lt w.heap.size rfl).2, fun i hi => ?_, fun i _ => hown.frozenAt i⟩
    rw [hown.cellAt i (by omega)]
    simp [half, List.getElem?_eq_getElem (show i < zs.length by omega)]
  have HP := Lib.hid hP
  have HB := Lib.hid ((Below.refl w.heap.size w).grown hgrow (Nat.le_refl _) (by simp))
  obtain ⟨z, hz⟩ : ∃ z : Nat → Value, (fun i => zs.getD i .nilIface) = z := ⟨_, rfl⟩
  rw [hz] at HP
  clear hown hgrow hzs hP hlz hz hi hz0 hz1 hz2
  go_wp2
  go_loopw [4] (fun i wr => ∃ j : Nat, j ≤ n ∧ i = .int .i64 j ∧ PBlk wr w.heap.size (n * 3) (half ps z j) ∧ Below w.heap.size w wr) (fun i _ => n - (intOf i).toNat)
  case atStart => exact ⟨0, Nat.zero_le _, rfl, HP.out, HB.out⟩
  case round =>
    obtain ⟨j, hj, rfl, hp, hb⟩ := hrel
    have HP' := Lib.hid hp
    have HB' := Lib.hid hb
    clear hp hb
    by_cases hlt : j < n
    · obtain ⟨g, o, rfl, hg, hc0, hc1, hc2⟩ := (HA.out.below HB'.out (Nat.le_refl _)).at_ hlt
      obtain ⟨x0, hx0⟩ : ∃ x, (ps.getD j (0, 0, 0)).1 = x := ⟨_, rfl⟩
      obtain ⟨x1, hx1⟩ : ∃ x, (ps.getD j (0, 0, 0)).2.1 = x := ⟨_, rfl⟩
      obtain ⟨x2, hx2⟩ : ∃ x, (ps.getD j (0, 0, 0)).2.2 = x := ⟨_, rfl⟩
      rw [hx0] at hc0
      rw [hx1] at hc1
      rw [hx2] at hc2
      have HX0 := Lib.hid hx0
      have HX1 := Lib.hid hx1
      have HX2 := Lib.hid hx2
      clear hx0 hx1 hx2
      go_wp2_with fail
      refine (toPose_any x0 x1 x2 _).mono ?_
      rintro e w2 ⟨rfl, hb⟩
      have HP2 := Lib.hid (HP'.out.after hb)
      have HB2 := Lib.hid (HB'.out.trans (hb.mono HB'.out.size))
      clear hb hc0 hc1 hc2
      have d0 := HP2.out.cell (j * 3) (by omega)
      have d1 := HP2.out.cell (j * 3 + 1) (by omega)
      have d2 := HP2.out.cell (j * 3 + 2) (by omega)
      have f0 := HP2.out.froz (j * 3) (by omega)
      have f1 := HP2.out.froz (j * 3 + 1) (by omega)
      have f2 := HP2.out.froz (j * 3 + 2) (by omega)
      go_wp2
      refine ⟨⟨j + 1, by omega, by go_num, ?_, ((HB2.out.setCell (Nat.le_refl _) _).setCell (Nat.le_refl _) _).setCell (Nat.le_refl _) _⟩, by simp [intOf]; omega⟩
      have h3 := ((HP2.out.set (j * 3) (.int .i64 x0) (by omega)).set (j * 3 + 1) (.int .i64 x1) (by omega)).set (j * 3 + 2) (.int .i64 x2) (by omega)
      refine h3.congr fun i hi => ?_
      rw [← HX0.out, ← HX1.out, ← HX2.out]
      exact half_step ps z j i
    · go_wp2
      go_ret
      obtain rfl : j = n := by omega
      have hl := HL.out
      refine ⟨w.heap.size, by rw [hl]; rfl, ?_, HB'.out⟩
      have h1 := (HP'.out.congr (g := pc ps) fun i hi => by unfold half; rw [if_pos hi]).row hl
      rw [hl]
      exact h1
set_option maxRecDepth 100000 in
set_option maxHeartbeats 1000000 in
theorem eqPoseS_same (A B : Option Addr) (n c d : Nat) (ps : List (Int × Int × Int)) (w : World) (hA : PRow w A n ps) (hB : PRow w B n ps) (hn : n ≤ 1048576) :
    Calls Tryd.prog 34 #[.slice A n c, .slice B n d] w fun e w' => e = .returned (.bool true) ∧ Below w.heap.size w w' := by
  have HA := Lib.hid hA
  have HB := Lib.hid hB
  clear hA hB
  go_enter Tryd.func34, Tryd.ntmps34
  go_wp2
  go_loopw [5] (fun i wr => ∃ k : Nat, k ≤ n ∧ i = .int .i64 k ∧ Below w.heap.size w wr) (fun i _ => n - (intOf i).toNat)
  case atStart => exact ⟨0, Nat.zero_le _, rfl, Below.refl _ _⟩
  case round =>
    obtain ⟨k, hk, rfl, hb⟩ := hrel
    have HW := Lib.hid hb
    clear hb
    by_cases hlt : k < n
    · obtain ⟨g, o, rfl, hg, hc0, hc1, hc2⟩ := (HA.out.below HW.out (Nat.le_refl _)).at_ hlt
      obtain ⟨g', o', rfl, hg', hd0, hd1, hd2⟩ := (HB.out.below HW.out (Nat.le_refl _)).at_ hlt
      obtain ⟨x0, hx0⟩ : ∃ x, (ps.getD k (0, 0, 0)).1 = x := ⟨_, rfl⟩
      obtain ⟨x1, hx1⟩ : ∃ x, (ps.getD k (0, 0, 0)).2.1 = x := ⟨_, rfl⟩
      obtain ⟨x2, hx2⟩ : ∃ x, (ps.getD k (0, 0, 0)).2.2 = x := ⟨_, rfl⟩
      rw [hx0] at hc0 hd0
      rw [hx1] at hc1 hd1
      rw [hx2] at hc2 hd2
      clear hx0 hx1 hx2
      have hk0 : (0 : Int) ≤ (k : Int) := by omega
      have hk1 : (k : Int) < (n : Int) := by omega
      go_wp2
      go_region_held3 (fun w' => w'.cell? ⟨g, o + k * 3, none⟩ = some (.int .i64 x0) ∧ w'.cell? ⟨g, o + k * 3 + 1, none⟩ = some (.int .i64 x1) ∧ w'.cell? ⟨g, o + k * 3 + 2, none⟩ = some (.int .i64 x2) ∧ w'.cell? ⟨g', o' + k * 3, none⟩ = some (.int .i64 x0) ∧ w'.cell? ⟨g', o' + k * 3 + 1, none⟩ = some (.int .i64 x1) ∧ w'.cell? ⟨g', o' + k * 3 + 2, none⟩ = some (.int .i64 x2)) (go_keep)
        (first
          | (go_at_call 28
             refine (eqPose_same x0 x1 x2 _).mono ?_
             rintro e w2 ⟨rfl, hb⟩
             have HW2 := Lib.hid (HW.out.drew.trans (hb.mono HW.out.drew.size))
             have e0 := (hb.cell (p := ⟨g, o + k * 3, none⟩) hg).trans hc0
             have e1 := (hb.cell (p := ⟨g, o + k * 3 + 1, none⟩) hg).trans hc1
             have e2 := (hb.cell (p := ⟨g, o + k * 3 + 2, none⟩) hg).trans hc2
             have e3 := (hb.cell (p := ⟨g', o' + k * 3, none⟩) hg').trans hd0
             have e4 := (hb.cell (p := ⟨g', o' + k * 3 + 1, none⟩) hg').trans hd1
             have e5 := (hb.cell (p := ⟨g', o' + k * 3 + 2, none⟩) hg').trans hd2
             clear hb))
      all_goals go_wp2
      all_goals exact ⟨⟨k + 1, by omega, by go_num, HW2.out⟩, by simp [intOf]; omega⟩
    · go_wp2
      go_ret
      exact ⟨rfl, HW.out⟩
end Go.Proofs.YtdilgjakodimbaaDoor
