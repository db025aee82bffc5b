/- Poses: the group's laws at small poses; the law's draws. Conditions: none. -/
import Derived.Test.YtdilgjakodimbaaDoorPose5
import Derived.Test.YtdilgjakodimbaaDoorPoseAll
import Derived.Test.YtdilgjakodimbaaDoorCursor
import Derived.Test.YtdilgjakodimbaaDoorPoseText
namespace Go.Proofs.YtdilgjakodimbaaDoor
open Go.RowKit Po
set_option linter.unusedVariables false

namespace Po
theorem rX_add (t a b c d : Int) : rX t (a + c) (b + d) = rX t a b + rX t c d := by unfold rX; split; rfl; split; omega; split <;> omega
theorem rY_add (t a b c d : Int) : rY t (a + c) (b + d) = rY t a b + rY t c d := by unfold rY; split; rfl; split; omega; split <;> omega
theorem r_mul {t u : Int} (h0 : 0 ≤ t) (h1 : t ≤ 3) (k0 : 0 ≤ u) (k1 : u ≤ 3) (a b : Int) : rX t (rX u a b) (rY u a b) = rX ((t + u) % 4) a b ∧ rY t (rX u a b) (rY u a b) = rY ((t + u) % 4) a b := by
  rcases four h0 h1 with rfl | rfl | rfl | rfl <;> rcases four k0 k1 with rfl | rfl | rfl | rfl <;> simp [rX, rY]
theorem r_small {t x y B : Int} (hx : -B ≤ x ∧ x ≤ B) (hy : -B ≤ y ∧ y ≤ B) : (-B ≤ rX t x y ∧ rX t x y ≤ B) ∧ -B ≤ rY t x y ∧ rY t x y ≤ B := by
  unfold rX rY; split; omega; split; omega; split <;> omega
/-- A pose within the bound B. -/
def Sm (B t x y : Int) : Prop := (0 ≤ t ∧ t ≤ 3) ∧ (-B ≤ x ∧ x ≤ B) ∧ -B ≤ y ∧ y ≤ B
theorem Sm.ok {B t x y : Int} (h : Sm B t x y) (hB : B ≤ 1000000) : ok t x y = true := ok_yes ⟨h.1, by have := h.2.1; omega, by have := h.2.2; omega⟩
theorem c_small {B C t x y u a b : Int} (h : Sm B t x y) (k : Sm C u a b) (hB : B + C ≤ 1000000) (h0 : 0 ≤ B) (k0 : 0 ≤ C) : cOk t x y u a b = true ∧ cT t x y u a b = (t + u) % 4 ∧ cX t x y u a b = x + rX t a b ∧ cY t x y u a b = y + rY t a b ∧ Sm (B + C) (cT t x y u a b) (cX t x y u a b) (cY t x y u a b) := by
  obtain ⟨r1, r2⟩ := r_small (t := t) k.2.1 k.2.2
  have hx := h.2.1
  have hy := h.2.2
  have hk : cOk t x y u a b = true := by
    simp only [cOk, h.ok (by omega), k.ok (by omega), Bool.true_and]
    exact ok_yes ⟨by omega, by omega, by omega⟩
  obtain ⟨e1, e2, e3⟩ := c_yes hk
  refine ⟨hk, e1, e2, e3, ?_⟩
  rw [e1, e2, e3]
  exact ⟨by omega, by omega, by omega⟩
theorem c_assoc {t x y u a b v c d : Int} (h : Sm 20 t x y) (k : Sm 20 u a b) (l : Sm 20 v c d) :
    cT t x y (cT u a b v c d) (cX u a b v c d) (cY u a b v c d) = cT (cT t x y u a b) (cX t x y u a b) (cY t x y u a b) v c d ∧ cX t x y (cT u a b v c d) (cX u a b v c d) (cY u a b v c d) = cX (cT t x y u a b) (cX t x y u a b) (cY t x y u a b) v c d ∧
      cY t x y (cT u a b v c d) (cX u a b v c d) (cY u a b v c d) = cY (cT t x y u a b) (cX t x y u a b) (cY t x y u a b) v c d := by
  obtain ⟨_, p1, p2, p3, ps⟩ := c_small h k (by omega) (by omega) (by omega)
  obtain ⟨_, q1, q2, q3, qs⟩ := c_small k l (by omega) (by omega) (by omega)
  obtain ⟨_, a1, a2, a3, _⟩ := c_small h qs (by omega) (by omega) (by omega)
  obtain ⟨_, b1, b2, b3, _⟩ := c_small ps l (by omega) (by omega) (by omega)
  rw [a1, a2, a3, b1, b2, b3, p1, p2, p3, q1, q2, q3]
  obtain ⟨m1, m2⟩ := r_mul h.1.1 h.1.2 k.1.1 k.1.2 c d
  rw [rX_add, rY_add, m1, m2]
  exact ⟨by omega, by omega, by omega⟩
theorem i_small {t x y : Int} (h : Sm 20 t x y) : iT t x y = (4 - t) % 4 ∧ iX t x y = -(rX ((4 - t) % 4) x y) ∧ iY t x y = -(rY ((4 - t) % 4) x y) ∧ Sm 20 (iT t x y) (iX t x y) (iY t x y) := by
  obtain ⟨e1, e2, e3⟩ := i_yes (h.ok (by omega))
  refine ⟨e1, e2, e3, ?_⟩
  rw [e1, e2, e3]
  obtain ⟨r1, r2⟩ := r_small (t := (4 - t) % 4) h.2.1 h.2.2
  have := h.1
  exact ⟨by omega, by omega, by omega⟩
theorem back_r {t x y : Int} (h0 : 0 ≤ t) (h1 : t ≤ 3) : rX t (rX ((4 - t) % 4) x y) (rY ((4 - t) % 4) x y) = x ∧ rY t (rX ((4 - t) % 4) x y) (rY ((4 - t) % 4) x y) = y := by
  rcases four h0 h1 with rfl | rfl | rfl | rfl <;> simp [rX, rY]
theorem c_inv {t x y : Int} (h : Sm 20 t x y) : cT t x y (iT t x y) (iX t x y) (iY t x y) = 0 ∧ cX t x y (iT t x y) (iX t x y) (iY t x y) = 0 ∧ cY t x y (iT t x y) (iX t x y) (iY t x y) = 0 := by
  obtain ⟨e1, e2, e3, es⟩ := i_small h
  obtain ⟨_, a1, a2, a3, _⟩ := c_small h es (by omega) (by omega) (by omega)
  rw [a1, a2, a3, e1, e2, e3, rX_neg, rY_neg]
  obtain ⟨b1, b2⟩ := back_r (x := x) (y := y) h.1.1 h.1.2
  rw [b1, b2]
  have := h.1
  exact ⟨by omega, by omega, by omega⟩
theorem c_zero {u a b : Int} (k : Sm 20 u a b) : cT 0 0 0 u a b = u ∧ cX 0 0 0 u a b = a ∧ cY 0 0 0 u a b = b := by
  obtain ⟨_, a1, a2, a3, _⟩ := c_small (B := 0) (t := 0) (x := 0) (y := 0) ⟨by omega, by omega, by omega⟩ k (by omega) (by omega) (by omega)
  rw [a1, a2, a3]
  have := k.1
  simp only [rX, rY, if_true]
  exact ⟨by omega, by omega, by omega⟩
theorem c_btw {t x y u a b : Int} (h : Sm 20 t x y) (k : Sm 20 u a b) :
    cT t x y (bT t x y u a b) (bX t x y u a b) (bY t x y u a b) = u ∧ cX t x y (bT t x y u a b) (bX t x y u a b) (bY t x y u a b) = a ∧ cY t x y (bT t x y u a b) (bX t x y u a b) (bY t x y u a b) = b := by
  obtain ⟨_, _, _, is⟩ := i_small h
  obtain ⟨e1, e2, e3⟩ := c_assoc h is k
  obtain ⟨z1, z2, z3⟩ := c_inv h
  unfold bT bX bY
  rw [e1, e2, e3, z1, z2, z3]
  exact c_zero k
theorem all_three {t x y u a b v c d : Int} (h : Sm 20 t x y) (k : Sm 20 u a b) (l : Sm 20 v c d) :
    allP [(t, x, y), (u, a, b), (v, c, d)] = (cT (cT t x y u a b) (cX t x y u a b) (cY t x y u a b) v c d, cX (cT t x y u a b) (cX t x y u a b) (cY t x y u a b) v c d, cY (cT t x y u a b) (cX t x y u a b) (cY t x y u a b) v c d) := by
  obtain ⟨hk, _⟩ := c_small h k (by omega) (by omega) (by omega)
  obtain ⟨z1, z2, z3⟩ := c_zero h
  obtain ⟨z4, _⟩ := c_small (B := 0) (t := 0) (x := 0) (y := 0) ⟨by omega, by omega, by omega⟩ h (by omega) (by omega) (by omega)
  simp only [allP, List.foldl_cons, List.foldl_nil, stp, z1, z2, z3, z4, hk, if_true]
end Po
theorem fmtP_size (t x y : Int) (h : ok t x y = true) : (fmtP t x y).size ≤ 43 := by
  obtain ⟨_, hx, hy⟩ := ok_iff.mp h
  have h1 := Nu.itoa_len x (by omega) (by omega)
  have h2 := Nu.itoa_len y (by omega) (by omega)
  rw [fmtP_yes h]
  simp only [ByteArray.size_append, ltr_size]
  have e : (⟨#[44]⟩ : ByteArray).size = 1 := rfl
  omega
/-- What a draw of a pose leaves. -/
def MadeP (B : Nat) (w : World) (e : Ending) (w' : World) : Prop := ∃ t x y : Int, e = .returned (.agg #[.int .i64 t, .int .i64 x, .int .i64 y]) ∧ Sm 20 t x y ∧ Below B w w'
set_option maxRecDepth 100000 in
set_option maxHeartbeats 1000000 in
theorem l05Draw_any (B : Nat) (zs : List Int) (A : Option Addr) (n c g : Nat) (w : World) (hB : B ≤ w.heap.size) (hc : CurAt B zs A n c g w) :
    Calls Tryd.prog 37 #[.pointer (some ⟨g, 0, none⟩)] w (MadeP B w) := by
  have HC := Lib.hid (hc.alloc (.cells #[.int .i64 0, .int .i64 0, .int .i64 0] 24))
  have HK := Lib.hid (HeldL.new w [.int .i64 0, .int .i64 0, .int .i64 0] 24)
  have HB := Lib.hid ((Below.refl B w).alloc hB (.cells #[.int .i64 0, .int .i64 0, .int .i64 0] 24))
  have HN := Lib.hid (show some w.heap.size ≠ some g by have := hc.lt; intro e; injection e with e; omega)
  have HG := Lib.hid hc.ge
  have hge : ∀ k, some g = some k → B ≤ k := fun k hk => by injection hk with hk; rw [← hk]; exact HG.out
  have HGE := Lib.hid hge
  clear hc hge
  go_enter Tryd.func37, Tryd.ntmps37
  go_wp2_with fail
  refine (l01Below_any B zs A n c g _ 4 (by omega) (by omega) HC.out).mono ?_
  rintro e w1 ⟨t, rfl, ht0, ht1, hc1, hg1⟩
  have HC1 := Lib.hid hc1
  have HK1 := Lib.hid (HK.out.grown hg1 HN.out)
  have HB1 := Lib.hid (HB.out.grown hg1 (by simp; omega) HGE.out)
  have hs1 := hg1.size
  clear hc1 hg1 HC HK HB
  go_wp2_with fail
  refine (l01Below_any B zs A n c g _ 41 (by omega) (by omega) HC1.out).mono ?_
  rintro e w2 ⟨x, rfl, hx0, hx1, hc2, hg2⟩
  have HC2 := Lib.hid hc2
  have HK2 := Lib.hid (HK1.out.grown hg2 HN.out)
  have hs1' : B ≤ w1.heap.size := by simp at hs1; omega
  have HB2 := Lib.hid (HB1.out.grown hg2 hs1' HGE.out)
  have hs2 := hg2.size
  clear hc2 hg2 HC1 HK1 HB1
  go_wp2_with fail
  refine (l01Below_any B zs A n c g _ 41 (by omega) (by omega) HC2.out).mono ?_
  rintro e w3 ⟨y, rfl, hy0, hy1, hc3, hg3⟩
  have HK3 := Lib.hid (HK2.out.grown hg3 HN.out)
  have HB3 := Lib.hid (HB2.out.grown hg3 (by omega) HGE.out)
  clear hc3 hg3 HC2 HK2 HB2
  have r0 := HK3.out.cell 0 _ rfl
  have r1 := HK3.out.cell 1 _ rfl
  have r2 := HK3.out.cell 2 _ rfl
  have f0 := HK3.out.froz 0 _ rfl
  have f1 := HK3.out.froz 1 _ rfl
  have f2 := HK3.out.froz 2 _ rfl
  go_wp2
  exact bodyPost_ret (v := .agg #[.int .i64 t, .int .i64 (x - 20), .int .i64 (y - 20)]) (by simp [results, Tryd.results37, go_sem, r0, r1, r2]) rfl ⟨t, x - 20, y - 20, rfl, ⟨⟨by omega, by omega⟩, ⟨by omega, by omega⟩, by omega, by omega⟩, ((HB3.out.setCell hB _).setCell hB _).setCell hB _⟩
set_option maxRecDepth 100000 in
set_option maxHeartbeats 1000000 in
theorem makePose_any (zs : List Int) (A : Option Addr) (n c : Nat) (m : Int) (w : World) (hm0 : 0 ≤ m) (hm1 : m ≤ 2) (hA : VRow w A n (zs.map (.int .u8))) (hn : n ≤ 1048576) (hz : ∀ z ∈ zs, 0 ≤ z ∧ z ≤ 255) :
    Calls Tryd.prog 12 #[.slice A n c, .int .i64 m] w (MadeP w.heap.size w) := by
  have HZ := Lib.hid hz
  have HB0 := Lib.hid ((Below.refl w.heap.size w).alloc (Nat.le_refl _) (.cells #[.int .i64 0, .int .i64 0, .int .i64 0] 24))
  have HA := Lib.hid (hA.below HB0.out (Nat.le_refl _))
  have HK := Lib.hid (HeldL.new w [.int .i64 0, .int .i64 0, .int .i64 0] 24)
  clear hz hA
  go_enter Tryd.func12, Tryd.ntmps12
  go_wp2_with fail
  refine (l32New_any zs A n c (3 * m) _ (by omega) (by omega) HA.out hn HZ.out).mono ?_
  rintro e w1 ⟨g, rfl, hc1, hb⟩
  have HC1 := Lib.hid hc1
  have HB1 := Lib.hid (HB0.out.trans (hb.mono HB0.out.size))
  have HK1 := Lib.hid (HK.out.after hb)
  have HS1 := Lib.hid hb.size
  clear hc1 hb HB0 HK HA
  go_wp2_with fail
  refine (l05Draw_any _ zs A n c g _ HS1.out HC1.out).mono ?_
  rintro e w2 ⟨t, x, y, rfl, hsm, hb⟩
  have HSM := Lib.hid hsm
  have HB2 := Lib.hid (HB1.out.trans (hb.mono (by simp)))
  have HK2 := Lib.hid (HK1.out.same hb.size (hb.block w.heap.size (by simp)))
  clear hb hsm HB1 HK1 HC1
  have r0 := HK2.out.cell 0 _ rfl
  have r1 := HK2.out.cell 1 _ rfl
  have r2 := HK2.out.cell 2 _ rfl
  have f0 := HK2.out.froz 0 _ rfl
  have f1 := HK2.out.froz 1 _ rfl
  have f2 := HK2.out.froz 2 _ rfl
  go_wp2
  exact bodyPost_ret (v := .agg #[.int .i64 t, .int .i64 x, .int .i64 y]) (by simp [results, Tryd.results12, go_sem, r0, r1, r2]) rfl ⟨t, x, y, rfl, HSM.out, ((HB2.out.setCell (Nat.le_refl _) _).setCell (Nat.le_refl _) _).setCell (Nat.le_refl _) _⟩
end Go.Proofs.YtdilgjakodimbaaDoor
