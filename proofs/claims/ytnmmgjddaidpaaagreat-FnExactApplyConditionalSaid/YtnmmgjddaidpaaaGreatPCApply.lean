/- ApplyConditional of both sides. Conditions: none. -/
import Derived.Test.YtnmmgjddaidpaaaGreatPCondS
import Derived.Test.YtnmmgjddaidpaaaGreatPRecPoint
namespace Go.Proofs.YtnmmgjddaidpaaaGreat
open Go.RowKit Nt Fr
set_option linter.unusedVariables false
def ptX (d : Da) : Fr := d.2.headD Fr.zero
def ptY (d : Da) : Fr := (d.2.drop 1).headD Fr.zero
def apStep (f g : Da → Fr) (ps : List Da) (s : Fr) (d : Da) : Fr := s.add ((paShare d).mul ((g (ps.getD (paNode d).toNat ([], []))).add (f d)))
def apSum (f g : Da → Fr) (ds ps : List Da) : Fr := ds.foldl (apStep f g ps) (Fr.of 0)
def apIn (ds : List Da) (m : Nat) : Bool := ds.all fun d => decide (paNode d < (m : Int))
def apOk (N : Int) (T : Fr) (ds ps : List Da) : Bool := okC N T ds && (apIn ds ps.length && ((apSum paX ptX ds ps).ok && (apSum paY ptY ds ps).ok))
def apk (ok : Bool) (F : Fr) : Fr := if ok = true then F else Fr.zero
def inP (ds : List Da) (m k : Nat) : Prop := ∀ (i : Nat) (z : Da), i < k → ds[i]? = some z → paNode z < (m : Int)
theorem apIn_iff {ds : List Da} {m : Nat} : apIn ds m = true ↔ inP ds m ds.length := by
 unfold apIn
 rw [List.all_eq_true]
 constructor
 · intro h i z hi hz; exact of_decide_eq_true (h z (List.mem_of_getElem? hz))
 · intro h z hz
   obtain ⟨i, hi⟩ := List.mem_iff_getElem?.mp hz
   exact decide_eq_true (h i z (List.getElem?_eq_some_iff.mp hi).1 hi)
theorem inP_step {ds : List Da} {m k : Nat} {z : Da} (h : inP ds m k) (h1 : ds[k]? = some z) (hl : paNode z < (m : Int)) : inP ds m (k + 1) := by
 intro i a hi ha
 by_cases e : i = k
 · subst e
   obtain rfl := Option.some.inj (h1.symm.trans ha)
   exact hl
 · exact h i a (by omega) ha
theorem apIn_bad {ds : List Da} {m k : Nat} {z : Da} (h1 : ds[k]? = some z) (hl : ¬ paNode z < (m : Int)) : apIn ds m = false := by
 rw [← Bool.not_eq_true, apIn_iff]
 exact fun h => hl (h k z (List.getElem?_eq_some_iff.mp h1).1 h1)
theorem apSum_step {f g : Da → Fr} {ds ps : List Da} {k : Nat} {z : Da} (h : ds[k]? = some z) : apSum f g (ds.take (k + 1)) ps = apStep f g ps (apSum f g (ds.take k) ps) z := by
 obtain ⟨hk, e⟩ := List.getElem?_eq_some_iff.mp h
 unfold apSum
 rw [List.take_succ_eq_append_getElem hk, List.foldl_append, e]; rfl
theorem apSum_good (f g : Da → Fr) (ds ps : List Da) : (apSum f g ds ps).Good := by
 have key : ∀ (l : List Da) (s : Fr), s.Good → (l.foldl (apStep f g ps) s).Good := by
   intro l
   induction l with
   | nil => exact fun s h => h
   | cons d r ih => exact fun s h => ih _ (good_add _ _)
 exact key ds _ of0_good
theorem okC_at {N : Int} {T : Fr} {ds : List Da} (h : okC N T ds = true) {k : Nat} {z : Da} (hz : ds[k]? = some z) : (0 ≤ paNode z ∧ paNode z < 10) ∧ (paShare z).ok = true := by
 unfold okC at h
 simp only [Bool.and_eq_true] at h
 have := paOk_parts.mp (okPa_iff.mp h.2.2.2.1 k z (List.getElem?_eq_some_iff.mp hz).1 hz)
 exact ⟨this.1, sgn_ok this.2.2.1⟩
def OwnPB (X Y : Fr) (ok : Bool) (w : World) (en : Ending) (w' : World) : Prop :=
 ∃ x0 x1 y0 y1, en = .returned (.tuple #[.agg #[.bool X.s, x0, x1, .bool Y.s, y0, y1], .bool ok]) ∧ Owns w' w.heap.size (rowsP X Y x0 x1 y0 y1) ∧ Below w.heap.size w w'
def OwnAP (ok : Bool) (X Y : Fr) (w : World) (en : Ending) (w' : World) : Prop := OwnPB (apk ok X) (apk ok Y) ok w en w'
theorem OwnAP.yes {ok : Bool} {X Y : Fr} {w w' : World} {e : Ending} (h : ok = true) (hm : OwnPB X Y true w e w') : OwnAP ok X Y w e w' := by subst h; exact hm
theorem OwnAP.no {ok : Bool} {X Y : Fr} {w w' : World} {bs : List (Nat × List Value)} {cs : List Chunk} (h : ok = false) (hs : St w w' bs cs) : OwnAP ok X Y w (.returned (.tuple #[.agg #[.bool false, .slice none 0 0, .slice none 0 0, .bool false, .slice none 0 0, .slice none 0 0], .bool false])) w' := by
 subst h; exact ⟨_, _, _, _, rfl, Owns.nils _ _ 4, hs.below⟩
theorem setCells_kit9 (b : Nat) (us : List Value) (w : World) (j : Nat) : w.setCells b j us = setCells w b j us := by
 induction us generalizing w j with
 | nil => rfl
 | cons v r ih => exact ih _ _
theorem St.seg9 {w0 w : World} {bs : List (Nat × List Value)} {cs : List Chunk} {X old us rest : List Value} {b m k : Nat} (h : St w0 w bs cs) (e : bs[k]? = some (b, X ++ (old ++ rest))) (hX : X.length = m) (hl : us.length = old.length) : St w0 (w.setCells b m us) (bs.set k (b, X ++ (us ++ rest))) cs := by rw [setCells_kit9]; exact h.setSeg e hX hl
theorem St.there9 {w0 w : World} {bs : List (Nat × List Value)} {cs : List Chunk} (h : St w0 w bs cs) (k o : Nat) {b n : Nat} {vs : List Value} (e : bs[k]? = some (b, vs)) (hl : o + n ≤ vs.length) : w.there b o n := fun j hj => by
 have hv : vs[o + j]? = some (vs[o + j]'(by omega)) := List.getElem?_eq_getElem (by omega)
 exact ⟨by rw [h.cell k (o + j) e hv]; rfl, h.froz k (o + j) e hv⟩
theorem size_rat9 : (Tryz.prog.info? 32).map (·.size) = some 3 := by kernel_rfl
theorem Rc.shapes02 {w : World} {z : Rc} (hs : z.sh 0 2) (h : z.ra w) : ∃ P Q a0 n0 c0 a1 n1 c1 a2 n2 c2 a3 n3 c3, z = ⟨[], [(P, .slice a0 n0 c0, .slice a1 n1 c1), (Q, .slice a2 n2 c2, .slice a3 n3 c3)]⟩ := by
 obtain ⟨P, p0, p1, Q, q0, q1, rfl⟩ := Rc.sh02 hs
 obtain ⟨a0, n0, c0, a1, n1, c1, h1, h2⟩ := (h (P, p0, p1) (by simp)).shape
 obtain ⟨a2, n2, c2, a3, n3, c3, h3, h4⟩ := (h (Q, q0, q1) (by simp)).shape
 simp only at h1 h2 h3 h4
 subst h1 h2 h3 h4
 exact ⟨_, _, _, _, _, _, _, _, _, _, _, _, _, _, rfl⟩
set_option maxRecDepth 100000 in
set_option maxHeartbeats 4000000 in
theorem l08Point_f (X Y : Fr) (x0 x1 y0 y1 : Value) (w : World) (hX : FrA w X x0 x1) (hY : FrA w Y y0 y1) :
   Calls Tryz.prog 50 #[.agg #[.bool X.s, x0, x1, .bool Y.s, y0, y1]] w fun e w' => e = .returned (.bool (X.ok && Y.ok)) ∧ Below w.heap.size w w' := by
 have HX := Lib.hid hX
 have HY := Lib.hid hY
 clear hX hY
 obtain ⟨s1, hs1⟩ : ∃ z, X.ok = z := ⟨_, rfl⟩
 rw [hs1]
 have H1 := Lib.hid hs1
 clear hs1
 have S_1 := Lib.hid (show St w (w.alloc (.cells #[.bool X.s, x0, x1, .bool Y.s, y0, y1] 50)) [(w.heap.size, [.bool X.s, x0, x1, .bool Y.s, y0, y1])] [] from ((St.start w).alloc_at (b := w.heap.size) [.bool X.s, x0, x1, .bool Y.s, y0, y1] 50 (by first | rfl | simp)))
 go_enter Tryz.func50, Tryz.ntmps50
 go_wp2_with fail
 refine (ratOk_s X x0 x1 _ (S_1.out.frA HX.out)).mono ?_
 rintro e w1 ⟨rfl, hb⟩
 have S_2 := Lib.hid (S_1.out.call hb)
 clear S_1
 clear hb
 rw [H1.out]
 by_cases g1 : s1 = true
 · subst g1
   have hk_a_0_2 := S_2.out.cell 0 0 rfl rfl
   have hk_a_1_2 := S_2.out.cell 0 1 rfl rfl
   have hk_a_2_2 := S_2.out.cell 0 2 rfl rfl
   have hk_a_3_2 := S_2.out.cell 0 3 rfl rfl
   have hk_a_4_2 := S_2.out.cell 0 4 rfl rfl
   have hk_a_5_2 := S_2.out.cell 0 5 rfl rfl
   go_wp2_with fail
   refine (ratOk_s Y y0 y1 _ (S_2.out.frA HY.out)).mono ?_
   rintro e w2 ⟨rfl, hb⟩
   have S_3 := Lib.hid (S_2.out.call hb)
   clear S_2
   clear hb
   clear hk_a_0_2 hk_a_1_2 hk_a_2_2 hk_a_3_2 hk_a_4_2 hk_a_5_2
   go_wp2
   all_goals go_ret
   all_goals exact ret_b rfl S_3.out.below
 · rw [Bool.not_eq_true] at g1
   subst g1
   go_wp2
   all_goals go_ret
   all_goals exact ret_b rfl S_2.out.below
set_option maxRecDepth 100000 in
set_option maxHeartbeats 40000000 in
theorem applyConditional_s (N : Int) (T : Fr) (t0 t1 : Value) (A : Option Addr) (n c : Nat) (zs : List Rc) (D : Option Addr) (m d : Nat) (ps : List Rc) (w : World) (hT : FrA w T t0 t1) (hA : PaArg w A n zs) (hD : RArg 6 0 2 w D m ps) (hn : n ≤ 1048576) (hm : m ≤ 1048576) :
   Calls Tryz.prog 17 #[.agg #[.int .i64 N, .bool T.s, t0, t1, (.slice A n c)], .slice D m d] w (OwnAP (apOk N T (dats zs) (dats ps)) (apSum paX ptX (dats zs) (dats ps)) (apSum paY ptY (dats zs) (dats ps)) w) := by
 have HT := Lib.hid hT
 have HA := Lib.hid hA
 have HD := Lib.hid hD
 have HL := Lib.hid hA.row.len
 have HM := Lib.hid (show (dats ps).length = m by rw [dats_len]; exact hD.row.len)
 obtain ⟨ok, hok⟩ : ∃ z, apOk N T (dats zs) (dats ps) = z := ⟨_, rfl⟩
 obtain ⟨XX, hXX⟩ : ∃ z, apSum paX ptX (dats zs) (dats ps) = z := ⟨_, rfl⟩
 obtain ⟨YY, hYY⟩ : ∃ z, apSum paY ptY (dats zs) (dats ps) = z := ⟨_, rfl⟩
 obtain ⟨vc, hvc⟩ : ∃ z, okC N T (dats zs) = z := ⟨_, rfl⟩
 rw [hok, hXX, hYY]
 have HOK := Lib.hid (show (vc && (apIn (dats zs) m && (XX.ok && YY.ok))) = ok by rw [← hok, ← hvc, ← hXX, ← hYY]; unfold apOk; rw [HM.out])
 have HXX := Lib.hid hXX
 have HYY := Lib.hid hYY
 have HVC := Lib.hid hvc
 clear hT hA hD hok hXX hYY hvc
 have S_1 := Lib.hid (show St w ((w.alloc (.cells #[.int .i64 N, .bool T.s, t0, t1, (.slice A n c)] 55)).alloc (.cells #[.bool false, .slice none 0 0, .slice none 0 0, .bool false, .slice none 0 0, .slice none 0 0] 50)) [(w.heap.size + 1, [.bool false, .slice none 0 0, .slice none 0 0, .bool false, .slice none 0 0, .slice none 0 0]), (w.heap.size, [.int .i64 N, .bool T.s, t0, t1, (.slice A n c)])] [] from (((St.start w).alloc_at (b := w.heap.size) [.int .i64 N, .bool T.s, t0, t1, (.slice A n c)] 55 (by first | rfl | simp)).alloc_at (b := w.heap.size + 1) [.bool false, .slice none 0 0, .slice none 0 0, .bool false, .slice none 0 0, .slice none 0 0] 50 (by first | rfl | simp)))
 have hne_ret_c : w.heap.size + 1 ≠ w.heap.size := by omega
 have hne_c_ret : w.heap.size ≠ w.heap.size + 1 := by omega
 go_enter Tryz.func17, Tryz.ntmps17
 go_wp2_with fail
 refine (isValidConditional_s N T t0 t1 A n c zs _ (S_1.out.frA HT.out) (HA.out.below S_1.out.below) hn).mono ?_
 rintro e w1 ⟨rfl, hb⟩
 have S_2 := Lib.hid (S_1.out.call hb)
 clear S_1
 clear hb
 rw [HVC.out]
 by_cases g1 : vc = true
 · have HV := Lib.hid (HVC.out.trans g1)
   subst g1
   go_wp2_with fail
   refine (ratFromInt_s 0 _ (by decide)).mono ?_
   rintro e w2 ⟨v0, u0, rfl, ho, hb⟩
   obtain ⟨A0, n0, c0, rfl⟩ := (ho.at_ 0 rfl).shape3
   obtain ⟨B0, m0, d0, rfl⟩ := (ho.at_ 1 rfl).shape3
   have S_3 := Lib.hid (S_2.out.rows ho hb)
   clear S_2
   clear ho hb
   go_wp2_with fail
   refine (ratFromInt_s 0 _ (by decide)).mono ?_
   rintro e w3 ⟨v1, u1, rfl, ho, hb⟩
   obtain ⟨A1, n1, c1, rfl⟩ := (ho.at_ 0 rfl).shape3
   obtain ⟨B1, m1, d1, rfl⟩ := (ho.at_ 1 rfl).shape3
   have S_4 := Lib.hid (S_3.out.rows ho hb)
   clear S_3
   clear ho hb
   have S_5 := Lib.hid (S_4.out.alloc [.bool (Fr.of 0).s, (.slice A0 n0 c0), (.slice B0 m0 d0), .bool (Fr.of 0).s, (.slice A1 n1 c1), (.slice B1 m1 d1)] 50)
   clear S_4
   have hne_ret_out := S_5.out.ne 1 0 rfl rfl (by decide)
   have hne_out_ret := S_5.out.ne 0 1 rfl rfl (by decide)
   have hne_c_out := S_5.out.ne 2 0 rfl rfl (by decide)
   have hne_out_c := S_5.out.ne 0 2 rfl rfl (by decide)
   have hk_c_0_5 := S_5.out.cell 2 0 rfl rfl
   have hk_c_1_5 := S_5.out.cell 2 1 rfl rfl
   have hk_c_2_5 := S_5.out.cell 2 2 rfl rfl
   have hk_c_3_5 := S_5.out.cell 2 3 rfl rfl
   have hk_c_4_5 := S_5.out.cell 2 4 rfl rfl
   have hk_out_0_5 := S_5.out.cell 0 0 rfl rfl
   have hk_out_0_5f := S_5.out.froz 0 0 rfl rfl
   have hk_out_1_5 := S_5.out.cell 0 1 rfl rfl
   have hk_out_1_5f := S_5.out.froz 0 1 rfl rfl
   have hk_out_2_5 := S_5.out.cell 0 2 rfl rfl
   have hk_out_2_5f := S_5.out.froz 0 2 rfl rfl
   have hk_out_3_5 := S_5.out.cell 0 3 rfl rfl
   have hk_out_3_5f := S_5.out.froz 0 3 rfl rfl
   have hk_out_4_5 := S_5.out.cell 0 4 rfl rfl
   have hk_out_4_5f := S_5.out.froz 0 4 rfl rfl
   have hk_out_5_5 := S_5.out.cell 0 5 rfl rfl
   have hk_out_5_5f := S_5.out.froz 0 5 rfl rfl
   have hk_ret_0_5 := S_5.out.cell 1 0 rfl rfl
   have hk_ret_0_5f := S_5.out.froz 1 0 rfl rfl
   have hk_ret_1_5 := S_5.out.cell 1 1 rfl rfl
   have hk_ret_1_5f := S_5.out.froz 1 1 rfl rfl
   have hk_ret_2_5 := S_5.out.cell 1 2 rfl rfl
   have hk_ret_2_5f := S_5.out.froz 1 2 rfl rfl
   have hk_ret_3_5 := S_5.out.cell 1 3 rfl rfl
   have hk_ret_3_5f := S_5.out.froz 1 3 rfl rfl
   have hk_ret_4_5 := S_5.out.cell 1 4 rfl rfl
   have hk_ret_4_5f := S_5.out.froz 1 4 rfl rfl
   have hk_ret_5_5 := S_5.out.cell 1 5 rfl rfl
   have hk_ret_5_5f := S_5.out.froz 1 5 rfl rfl
   go_wp2
   have SX := Lib.hid S_5.out
   go_loopw [19] (fun i wr => ∃ (k : Nat) (X Y : Fr) (x0 x1 y0 y1 : Value), k ≤ n ∧ i = .int .i64 k ∧ inP (dats zs) m k ∧ apSum paX ptX ((dats zs).take k) (dats ps) = X ∧ apSum paY ptY ((dats zs).take k) (dats ps) = Y ∧ St w wr [(w3.heap.size, [.bool X.s, x0, x1, .bool Y.s, y0, y1]), (w.heap.size + 1, [.bool false, .slice none 0 0, .slice none 0 0, .bool false, .slice none 0 0, .slice none 0 0]), (w.heap.size, [.int .i64 N, .bool T.s, t0, t1, (.slice A n c)])] [[(y0, ints Y.xs), (y1, ints Y.ys)], [(x0, ints X.xs), (x1, ints X.ys)]]) (fun i _ => n - (intOf i).toNat)
   case atStart => exact ⟨0, Fr.of 0, Fr.of 0, _, _, _, _, Nat.zero_le _, rfl, fun i z hi => by omega, rfl, rfl, SX.out⟩
   case round =>
     obtain ⟨k, X, Y, x0, x1, y0, y1, hk, rfl, hin, hX, hY, hst⟩ := hrel
     have HI := Lib.hid hin
     have HX := Lib.hid hX
     have HY := Lib.hid hY
     obtain ⟨Ay, ny, cy, rfl⟩ := ((hst.own 0 rfl).at_ 0 rfl).shape3
     obtain ⟨By, my, dy, rfl⟩ := ((hst.own 0 rfl).at_ 1 rfl).shape3
     obtain ⟨Ax, nx, cx, rfl⟩ := ((hst.own 1 rfl).at_ 0 rfl).shape3
     obtain ⟨Bx, mx, dx, rfl⟩ := ((hst.own 1 rfl).at_ 1 rfl).shape3
     have R_0 := Lib.hid hst
     clear hin hX hY hst SX
     by_cases hlt : k < n
     · obtain ⟨g1, o1, z, rfl, hg1, hz, hr, hs, hc⟩ := HA.out.at_ hlt
       obtain ⟨ZA, ZP, ZQ, ZR, a0, n0, c0, a1, n1, c1, a2, n2, c2, a3, n3, c3, a4, n4, c4, a5, n5, c5, rfl⟩ := Rc.shapes13 hs hr
       have HZ := Lib.hid (dats_get hz)
       have HR := Lib.hid hr
       have HN := Lib.hid (show (0 ≤ ZA ∧ ZA < 10) ∧ ZP.ok = true from okC_at HV.out (dats_get hz))
       obtain ⟨q, rfl⟩ : ∃ q : Nat, ZA = q := ⟨ZA.toNat, by have := HN.out.1.1; omega⟩
       have hi0 : (0 : Int) ≤ (k : Int) := by omega
       have hi1 : (k : Int) < (n : Int) := by omega
       have d0 : wr.cell? ⟨g1, o1 + k * 10, none⟩ = some (.int .i64 (q : Int)) := (R_0.out.below.cell (p := ⟨g1, o1 + k * 10, none⟩) hg1).trans (hc 0 _ rfl)
       have d1 : wr.cell? ⟨g1, o1 + k * 10 + 1, none⟩ = some (.bool ZP.s) := (R_0.out.below.cell (p := ⟨g1, o1 + k * 10 + 1, none⟩) hg1).trans (hc 1 _ rfl)
       have d2 : wr.cell? ⟨g1, o1 + k * 10 + 2, none⟩ = some ((.slice a0 n0 c0)) := (R_0.out.below.cell (p := ⟨g1, o1 + k * 10 + 2, none⟩) hg1).trans (hc 2 _ rfl)
       have d3 : wr.cell? ⟨g1, o1 + k * 10 + 3, none⟩ = some ((.slice a1 n1 c1)) := (R_0.out.below.cell (p := ⟨g1, o1 + k * 10 + 3, none⟩) hg1).trans (hc 3 _ rfl)
       have d4 : wr.cell? ⟨g1, o1 + k * 10 + 4, none⟩ = some (.bool ZQ.s) := (R_0.out.below.cell (p := ⟨g1, o1 + k * 10 + 4, none⟩) hg1).trans (hc 4 _ rfl)
       have d5 : wr.cell? ⟨g1, o1 + k * 10 + 5, none⟩ = some ((.slice a2 n2 c2)) := (R_0.out.below.cell (p := ⟨g1, o1 + k * 10 + 5, none⟩) hg1).trans (hc 5 _ rfl)
       have d6 : wr.cell? ⟨g1, o1 + k * 10 + 6, none⟩ = some ((.slice a3 n3 c3)) := (R_0.out.below.cell (p := ⟨g1, o1 + k * 10 + 6, none⟩) hg1).trans (hc 6 _ rfl)
       have d7 : wr.cell? ⟨g1, o1 + k * 10 + 7, none⟩ = some (.bool ZR.s) := (R_0.out.below.cell (p := ⟨g1, o1 + k * 10 + 7, none⟩) hg1).trans (hc 7 _ rfl)
       have d8 : wr.cell? ⟨g1, o1 + k * 10 + 8, none⟩ = some ((.slice a4 n4 c4)) := (R_0.out.below.cell (p := ⟨g1, o1 + k * 10 + 8, none⟩) hg1).trans (hc 8 _ rfl)
       have d9 : wr.cell? ⟨g1, o1 + k * 10 + 9, none⟩ = some ((.slice a5 n5 c5)) := (R_0.out.below.cell (p := ⟨g1, o1 + k * 10 + 9, none⟩) hg1).trans (hc 9 _ rfl)
       clear hz hs hc hr
       have S_6 := Lib.hid (R_0.out.alloc [.int .i64 (q : Int), .bool ZP.s, (.slice a0 n0 c0), (.slice a1 n1 c1), .bool ZQ.s, (.slice a2 n2 c2), (.slice a3 n3 c3), .bool ZR.s, (.slice a4 n4 c4), (.slice a5 n5 c5)] 84)
       clear R_0
       have hne_out_p := S_6.out.ne 1 0 rfl rfl (by decide)
       have hne_p_out := S_6.out.ne 0 1 rfl rfl (by decide)
       have hne_ret_p := S_6.out.ne 2 0 rfl rfl (by decide)
       have hne_p_ret := S_6.out.ne 0 2 rfl rfl (by decide)
       have hne_c_p := S_6.out.ne 3 0 rfl rfl (by decide)
       have hne_p_c := S_6.out.ne 0 3 rfl rfl (by decide)
       clear hk_c_0_5 hk_c_1_5 hk_c_2_5 hk_c_3_5 hk_c_4_5 hk_out_0_5 hk_out_0_5f hk_out_1_5 hk_out_1_5f hk_out_2_5 hk_out_2_5f hk_out_3_5 hk_out_3_5f hk_out_4_5 hk_out_4_5f hk_out_5_5 hk_out_5_5f hk_ret_0_5 hk_ret_0_5f hk_ret_1_5 hk_ret_1_5f hk_ret_2_5 hk_ret_2_5f hk_ret_3_5 hk_ret_3_5f hk_ret_4_5 hk_ret_4_5f hk_ret_5_5 hk_ret_5_5f
       have hk_c_0_6 := S_6.out.cell 3 0 rfl rfl
       have hk_c_1_6 := S_6.out.cell 3 1 rfl rfl
       have hk_c_2_6 := S_6.out.cell 3 2 rfl rfl
       have hk_c_3_6 := S_6.out.cell 3 3 rfl rfl
       have hk_c_4_6 := S_6.out.cell 3 4 rfl rfl
       have hk_p_0_6 := S_6.out.cell 0 0 rfl rfl
       have hk_p_1_6 := S_6.out.cell 0 1 rfl rfl
       have hk_p_2_6 := S_6.out.cell 0 2 rfl rfl
       have hk_p_3_6 := S_6.out.cell 0 3 rfl rfl
       have hk_p_4_6 := S_6.out.cell 0 4 rfl rfl
       have hk_p_5_6 := S_6.out.cell 0 5 rfl rfl
       have hk_p_6_6 := S_6.out.cell 0 6 rfl rfl
       have hk_p_7_6 := S_6.out.cell 0 7 rfl rfl
       have hk_p_8_6 := S_6.out.cell 0 8 rfl rfl
       have hk_p_9_6 := S_6.out.cell 0 9 rfl rfl
       have hk_out_0_6 := S_6.out.cell 1 0 rfl rfl
       have hk_out_1_6 := S_6.out.cell 1 1 rfl rfl
       have hk_out_2_6 := S_6.out.cell 1 2 rfl rfl
       have hk_out_3_6 := S_6.out.cell 1 3 rfl rfl
       have hk_out_4_6 := S_6.out.cell 1 4 rfl rfl
       have hk_out_5_6 := S_6.out.cell 1 5 rfl rfl
       have hk_ret_0_6 := S_6.out.cell 2 0 rfl rfl
       have hk_ret_1_6 := S_6.out.cell 2 1 rfl rfl
       have hk_ret_2_6 := S_6.out.cell 2 2 rfl rfl
       have hk_ret_3_6 := S_6.out.cell 2 3 rfl rfl
       have hk_ret_4_6 := S_6.out.cell 2 4 rfl rfl
       have hk_ret_5_6 := S_6.out.cell 2 5 rfl rfl
       by_cases h1 : (q : Int) < (m : Int)
       · have HI2 := Lib.hid (inP_step HI.out HZ.out (show (q : Int) < (m : Int) from h1))
         have h1b : ¬ (m : Int) ≤ (q : Int) := by omega
         have hq0 : (0 : Int) ≤ (q : Int) := by omega
         obtain ⟨g2, o2, y, rfl, hg2, hy, hry, hsy, hcy⟩ := HD.out.at_ (show q < m by omega)
         obtain ⟨GP, GQ, e0, m0, j0, e1, m1, j1, e2, m2, j2, e3, m3, j3, rfl⟩ := Rc.shapes02 hsy hry
         have HRY := Lib.hid hry
         have HG := Lib.hid (show (dats ps).getD ((q : Int).toNat) ([], []) = Rc.dat ⟨[], [(GP, .slice e0 m0 j0, .slice e1 m1 j1), (GQ, .slice e2 m2 j2, .slice e3 m3 j3)]⟩ by rw [Int.toNat_natCast, List.getD_eq_getElem?_getD, dats_get hy]; rfl)
         have x_0 : w.cell? ⟨g2, o2 + q * 6, none⟩ = some (.bool GP.s) := hcy 0 _ rfl
         have x_1 : w.cell? ⟨g2, o2 + q * 6 + 1, none⟩ = some ((.slice e0 m0 j0)) := hcy 1 _ rfl
         have x_2 : w.cell? ⟨g2, o2 + q * 6 + 2, none⟩ = some ((.slice e1 m1 j1)) := hcy 2 _ rfl
         have x_3 : w.cell? ⟨g2, o2 + q * 6 + 3, none⟩ = some (.bool GQ.s) := hcy 3 _ rfl
         have x_4 : w.cell? ⟨g2, o2 + q * 6 + 4, none⟩ = some ((.slice e2 m2 j2)) := hcy 4 _ rfl
         have x_5 : w.cell? ⟨g2, o2 + q * 6 + 5, none⟩ = some ((.slice e3 m3 j3)) := hcy 5 _ rfl
         clear hy hsy hry hcy
         go_upto_region 9 with fail
         clear d0 d1 d2 d3 d4 d5 d6 d7 d8 d9
         clear hk_c_0_6 hk_c_1_6 hk_c_2_6 hk_c_3_6 hk_c_4_6 hk_p_0_6 hk_p_1_6 hk_p_2_6 hk_p_3_6 hk_p_4_6 hk_p_5_6 hk_p_6_6 hk_p_7_6 hk_p_8_6 hk_p_9_6 hk_out_0_6 hk_out_1_6 hk_out_2_6 hk_out_3_6 hk_out_4_6 hk_out_5_6 hk_ret_0_6 hk_ret_1_6 hk_ret_2_6 hk_ret_3_6 hk_ret_4_6 hk_ret_5_6
         go_cut [] (fun wx => ∃ Af3 nf3 cf3 Bf3 mf3 df3, St w wx [(wr.heap.size, [.int .i64 (q : Int), .bool ZP.s, (.slice a0 n0 c0), (.slice a1 n1 c1), .bool ZQ.s, (.slice a2 n2 c2), (.slice a3 n3 c3), .bool ZR.s, (.slice a4 n4 c4), (.slice a5 n5 c5)]), (w3.heap.size, [.bool (X.add (ZP.mul (GP.add ZQ))).s, (.slice Af3 nf3 cf3), (.slice Bf3 mf3 df3), .bool Y.s, (.slice Ay ny cy), (.slice By my dy)]), (w.heap.size + 1, [.bool false, .slice none 0 0, .slice none 0 0, .bool false, .slice none 0 0, .slice none 0 0]), (w.heap.size, [.int .i64 N, .bool T.s, t0, t1, (.slice (some ⟨g1, o1, none⟩) n c)])] [[((.slice Af3 nf3 cf3), ints (X.add (ZP.mul (GP.add ZQ))).xs), ((.slice Bf3 mf3 df3), ints (X.add (ZP.mul (GP.add ZQ))).ys)], [((.slice Ay ny cy), ints Y.xs), ((.slice By my dy), ints Y.ys)], [((.slice Ax nx cx), ints X.xs), ((.slice Bx mx dx), ints X.ys)]])
         case first =>
           refine wp_region_noPanic ?_
           refine wp_region_held_drew (S := (fun w' => w'.cell? ⟨wr.heap.size, 0, none⟩ = some (.int .i64 (q : Int)) ∧ w'.cell? ⟨wr.heap.size, 1, none⟩ = some (.bool ZP.s) ∧ w'.cell? ⟨wr.heap.size, 2, none⟩ = some ((.slice a0 n0 c0)) ∧ w'.cell? ⟨wr.heap.size, 3, none⟩ = some ((.slice a1 n1 c1)) ∧ w'.cell? ⟨wr.heap.size, 4, none⟩ = some (.bool ZQ.s) ∧ w'.cell? ⟨wr.heap.size, 5, none⟩ = some ((.slice a2 n2 c2)) ∧ w'.cell? ⟨wr.heap.size, 6, none⟩ = some ((.slice a3 n3 c3)) ∧ w'.cell? ⟨wr.heap.size, 7, none⟩ = some (.bool ZR.s) ∧ w'.cell? ⟨wr.heap.size, 8, none⟩ = some ((.slice a4 n4 c4)) ∧ w'.cell? ⟨wr.heap.size, 9, none⟩ = some ((.slice a5 n5 c5)) ∧ w'.cell? ⟨g2, o2 + q * 6, none⟩ = some (.bool GP.s) ∧ w'.cell? ⟨g2, o2 + q * 6 + 1, none⟩ = some ((.slice e0 m0 j0)) ∧ w'.cell? ⟨g2, o2 + q * 6 + 2, none⟩ = some ((.slice e1 m1 j1)) ∧ w'.cell? ⟨g2, o2 + q * 6 + 3, none⟩ = some (.bool GQ.s) ∧ w'.cell? ⟨g2, o2 + q * 6 + 4, none⟩ = some ((.slice e2 m2 j2)) ∧ w'.cell? ⟨g2, o2 + q * 6 + 5, none⟩ = some ((.slice e3 m3 j3)))) (by kernel_rfl) ?_ (fun hHeld => ?_)
           · exact ⟨S_6.out.drew.cell 0 0 rfl rfl, S_6.out.drew.cell 0 1 rfl rfl, S_6.out.drew.cell 0 2 rfl rfl, S_6.out.drew.cell 0 3 rfl rfl, S_6.out.drew.cell 0 4 rfl rfl, S_6.out.drew.cell 0 5 rfl rfl, S_6.out.drew.cell 0 6 rfl rfl, S_6.out.drew.cell 0 7 rfl rfl, S_6.out.drew.cell 0 8 rfl rfl, S_6.out.drew.cell 0 9 rfl rfl, (S_6.out.drew.below.cell (p := ⟨g2, o2 + q * 6, none⟩) hg2).trans x_0, (S_6.out.drew.below.cell (p := ⟨g2, o2 + q * 6 + 1, none⟩) hg2).trans x_1, (S_6.out.drew.below.cell (p := ⟨g2, o2 + q * 6 + 2, none⟩) hg2).trans x_2, (S_6.out.drew.below.cell (p := ⟨g2, o2 + q * 6 + 3, none⟩) hg2).trans x_3, (S_6.out.drew.below.cell (p := ⟨g2, o2 + q * 6 + 4, none⟩) hg2).trans x_4, (S_6.out.drew.below.cell (p := ⟨g2, o2 + q * 6 + 5, none⟩) hg2).trans x_5⟩
           refine tkH 0 ?_ ⟨some 29, .fieldAddr 50 (.tmp 6) 0, 0, "l08_star.go:86", #[], none⟩ ?_ ?_
           rotate_left
           · intro w9 hSw; (try dsimp only at hSw); go_simp; try with_reducible rfl
           try simp only [pm, s0, sS]
           refine tkH 2 ?_ ⟨some 31, .fieldAddr 84 (.tmp 8) 1, 0, "l08_star.go:86", #[], none⟩ ?_ ?_
           rotate_left
           · intro w9 hSw; (try dsimp only at hSw); go_simp; try with_reducible rfl
           try simp only [pm, s0, sS]
           refine tkH 3 ?_ ⟨some 32, .load 32 (.tmp 31), 32, "l08_star.go:86", #[⟨2, .data⟩], none⟩ ?_ ?_
           rotate_left
           · intro w9 hSw; (try dsimp only at hSw); go_simp; try with_reducible rfl
           try simp only [pm, s0, sS]
           refine tkH 4 ?_ ⟨some 33, .move (.tmp 1), 57, "l08_star.go:86", #[], none⟩ ?_ ?_
           rotate_left
           · intro w9 hSw; (try dsimp only at hSw); go_simp; try with_reducible rfl
           try simp only [pm, s0, sS]
           refine tkH 5 ?_ ⟨some 34, .fieldAddr 84 (.tmp 8) 0, 0, "l08_star.go:86", #[], none⟩ ?_ ?_
           rotate_left
           · intro w9 hSw; (try dsimp only at hSw); go_simp; try with_reducible rfl
           try simp only [pm, s0, sS]
           refine tkH 6 ?_ ⟨some 35, .load 3 (.tmp 34), 3, "l08_star.go:86", #[⟨5, .data⟩], none⟩ ?_ ?_
           rotate_left
           · intro w9 hSw; (try dsimp only at hSw); go_simp; try with_reducible rfl
           try simp only [pm, s0, sS]
           refine tkH 7 ?_ ⟨some 36, .indexAddr 57 (.tmp 33) (.tmp 35), 0, "l08_star.go:86", #[⟨4, .data⟩, ⟨6, .data⟩], none⟩ ?_ ?_
           rotate_left
           · intro w9 hSw; (try dsimp only at hSw); go_simp; try with_reducible rfl
           try simp only [pm, s0, sS]
           refine tkH 8 ?_ ⟨some 37, .fieldAddr 50 (.tmp 36) 0, 0, "l08_star.go:86", #[⟨7, .data⟩], none⟩ ?_ ?_
           rotate_left
           · intro w9 hSw; (try dsimp only at hSw); go_simp; try with_reducible rfl
           try simp only [pm, s0, sS]
           refine tkH 9 ?_ ⟨some 38, .load 32 (.tmp 37), 32, "l08_star.go:86", #[⟨8, .data⟩], none⟩ ?_ ?_
           rotate_left
           · intro w9 hSw; (try dsimp only at hSw); go_simp; try with_reducible rfl
           try simp only [pm, s0, sS]
           refine tkH 10 ?_ ⟨some 39, .fieldAddr 84 (.tmp 8) 2, 0, "l08_star.go:86", #[], none⟩ ?_ ?_
           rotate_left
           · intro w9 hSw; (try dsimp only at hSw); go_simp; try with_reducible rfl
           try simp only [pm, s0, sS]
           refine tkH 11 ?_ ⟨some 40, .load 32 (.tmp 39), 32, "l08_star.go:86", #[⟨10, .data⟩], none⟩ ?_ ?_
           rotate_left
           · intro w9 hSw; (try dsimp only at hSw); go_simp; try with_reducible rfl
           try simp only [pm, s0, sS]
           refine wpAnyH_ready (rs := [1, 12]) (by kernel_rfl) (by simp) ?_
           refine AllReadyH.cons (o := ⟨some 30, .load 32 (.tmp 29), 32, "l08_star.go:86", #[⟨0, .data⟩], none⟩) rfl (fun K hK => ?_) ?_
           · have hl_0 := S_6.out.drew.cell 1 0 rfl rfl
             have hl_1 := S_6.out.drew.cell 1 1 rfl rfl
             have hl_2 := S_6.out.drew.cell 1 2 rfl rfl
             go_simp
             clear hl_0 hl_1 hl_2
             refine hK.out _ _ (⟨S_6.out.drew.cell 0 0 rfl rfl, S_6.out.drew.cell 0 1 rfl rfl, S_6.out.drew.cell 0 2 rfl rfl, S_6.out.drew.cell 0 3 rfl rfl, S_6.out.drew.cell 0 4 rfl rfl, S_6.out.drew.cell 0 5 rfl rfl, S_6.out.drew.cell 0 6 rfl rfl, S_6.out.drew.cell 0 7 rfl rfl, S_6.out.drew.cell 0 8 rfl rfl, S_6.out.drew.cell 0 9 rfl rfl, (S_6.out.drew.below.cell (p := ⟨g2, o2 + q * 6, none⟩) hg2).trans x_0, (S_6.out.drew.below.cell (p := ⟨g2, o2 + q * 6 + 1, none⟩) hg2).trans x_1, (S_6.out.drew.below.cell (p := ⟨g2, o2 + q * 6 + 2, none⟩) hg2).trans x_2, (S_6.out.drew.below.cell (p := ⟨g2, o2 + q * 6 + 3, none⟩) hg2).trans x_3, (S_6.out.drew.below.cell (p := ⟨g2, o2 + q * 6 + 4, none⟩) hg2).trans x_4, (S_6.out.drew.below.cell (p := ⟨g2, o2 + q * 6 + 5, none⟩) hg2).trans x_5⟩) (fun hHeld1 => ?_)
             clear hK K
             try simp only [pm, s0, sS]
             refine wpAnyH_ready (rs := [12]) (by kernel_rfl) (by simp) ?_
             refine AllReadyH.cons (o := ⟨some 41, .call { callee := .value (.func 30), args := #[.tmp 38, .tmp 40], argTypes := #[32, 32] }, 32, "l08_star.go:86", #[⟨9, .data⟩, ⟨11, .data⟩], none⟩) rfl (fun K hK => ?_) AllReadyH.nil
             go_simp
             go_at_call 30
             refine (ratAdd_s GP ZQ (.slice e0 m0 j0) (.slice e1 m1 j1) (.slice a2 n2 c2) (.slice a3 n3 c3) _ (HRY.out.below S_6.out.drew.below (GP, .slice e0 m0 j0, .slice e1 m1 j1) (by simp)) (HR.out.below S_6.out.drew.below (ZQ, .slice a2 n2 c2, .slice a3 n3 c3) (by simp))).mono ?_
             rintro e wf1 ⟨vf1, uf1, rfl, ho, hb⟩
             obtain ⟨Af1, nf1, cf1, rfl⟩ := (ho.at_ 0 rfl).shape3
             obtain ⟨Bf1, mf1, df1, rfl⟩ := (ho.at_ 1 rfl).shape3
             have S_7 := Lib.hid (S_6.out.drew.rows ho hb)
             clear S_6 ho hb
             refine hK.out _ _ (⟨S_7.out.cell 0 0 rfl rfl, S_7.out.cell 0 1 rfl rfl, S_7.out.cell 0 2 rfl rfl, S_7.out.cell 0 3 rfl rfl, S_7.out.cell 0 4 rfl rfl, S_7.out.cell 0 5 rfl rfl, S_7.out.cell 0 6 rfl rfl, S_7.out.cell 0 7 rfl rfl, S_7.out.cell 0 8 rfl rfl, S_7.out.cell 0 9 rfl rfl, (S_7.out.below.cell (p := ⟨g2, o2 + q * 6, none⟩) hg2).trans x_0, (S_7.out.below.cell (p := ⟨g2, o2 + q * 6 + 1, none⟩) hg2).trans x_1, (S_7.out.below.cell (p := ⟨g2, o2 + q * 6 + 2, none⟩) hg2).trans x_2, (S_7.out.below.cell (p := ⟨g2, o2 + q * 6 + 3, none⟩) hg2).trans x_3, (S_7.out.below.cell (p := ⟨g2, o2 + q * 6 + 4, none⟩) hg2).trans x_4, (S_7.out.below.cell (p := ⟨g2, o2 + q * 6 + 5, none⟩) hg2).trans x_5⟩) (fun hHeld12 => ?_)
             clear hK K
             try simp only [pm, s0, sS]
             refine wpAnyH_ready (rs := [13]) (by kernel_rfl) (by simp) ?_
             refine AllReadyH.cons (o := ⟨some 42, .call { callee := .value (.func 32), args := #[.tmp 32, .tmp 41], argTypes := #[32, 32] }, 32, "l08_star.go:86", #[⟨3, .data⟩, ⟨12, .data⟩, ⟨12, .chain⟩], none⟩) rfl (fun K hK => ?_) AllReadyH.nil
             go_simp
             go_at_call 32
             refine (ratMul_s ZP (GP.add ZQ) (.slice a0 n0 c0) (.slice a1 n1 c1) (.slice Af1 nf1 cf1) (.slice Bf1 mf1 df1) _ (HR.out.below S_7.out.below (ZP, .slice a0 n0 c0, .slice a1 n1 c1) (by simp)) (S_7.out.fr 0 0 rfl rfl rfl)).mono ?_
             rintro e wf2 ⟨vf2, uf2, rfl, ho, hb⟩
             obtain ⟨Af2, nf2, cf2, rfl⟩ := (ho.at_ 0 rfl).shape3
             obtain ⟨Bf2, mf2, df2, rfl⟩ := (ho.at_ 1 rfl).shape3
             have S_8 := Lib.hid (S_7.out.rows ho hb)
             clear S_7 ho hb
             refine hK.out _ _ (⟨S_8.out.cell 0 0 rfl rfl, S_8.out.cell 0 1 rfl rfl, S_8.out.cell 0 2 rfl rfl, S_8.out.cell 0 3 rfl rfl, S_8.out.cell 0 4 rfl rfl, S_8.out.cell 0 5 rfl rfl, S_8.out.cell 0 6 rfl rfl, S_8.out.cell 0 7 rfl rfl, S_8.out.cell 0 8 rfl rfl, S_8.out.cell 0 9 rfl rfl, (S_8.out.below.cell (p := ⟨g2, o2 + q * 6, none⟩) hg2).trans x_0, (S_8.out.below.cell (p := ⟨g2, o2 + q * 6 + 1, none⟩) hg2).trans x_1, (S_8.out.below.cell (p := ⟨g2, o2 + q * 6 + 2, none⟩) hg2).trans x_2, (S_8.out.below.cell (p := ⟨g2, o2 + q * 6 + 3, none⟩) hg2).trans x_3, (S_8.out.below.cell (p := ⟨g2, o2 + q * 6 + 4, none⟩) hg2).trans x_4, (S_8.out.below.cell (p := ⟨g2, o2 + q * 6 + 5, none⟩) hg2).trans x_5⟩) (fun hHeld13 => ?_)
             clear hK K
             try simp only [pm, s0, sS]
             refine wpAnyH_ready (rs := [14]) (by kernel_rfl) (by simp) ?_
             refine AllReadyH.cons (o := ⟨some 43, .call { callee := .value (.func 30), args := #[.tmp 30, .tmp 42], argTypes := #[32, 32] }, 32, "l08_star.go:86", #[⟨1, .data⟩, ⟨13, .data⟩, ⟨13, .chain⟩], none⟩) rfl (fun K hK => ?_) AllReadyH.nil
             go_simp
             go_at_call 30
             refine (ratAdd_s X (ZP.mul (GP.add ZQ)) (.slice Ax nx cx) (.slice Bx mx dx) (.slice Af2 nf2 cf2) (.slice Bf2 mf2 df2) _ (S_8.out.fr 3 0 rfl rfl rfl) (S_8.out.fr 0 0 rfl rfl rfl)).mono ?_
             rintro e wf3 ⟨vf3, uf3, rfl, ho, hb⟩
             obtain ⟨Af3, nf3, cf3, rfl⟩ := (ho.at_ 0 rfl).shape3
             obtain ⟨Bf3, mf3, df3, rfl⟩ := (ho.at_ 1 rfl).shape3
             have S_9 := Lib.hid (S_8.out.rows ho hb)
             clear S_8 ho hb
             refine hK.out _ _ (⟨S_9.out.cell 0 0 rfl rfl, S_9.out.cell 0 1 rfl rfl, S_9.out.cell 0 2 rfl rfl, S_9.out.cell 0 3 rfl rfl, S_9.out.cell 0 4 rfl rfl, S_9.out.cell 0 5 rfl rfl, S_9.out.cell 0 6 rfl rfl, S_9.out.cell 0 7 rfl rfl, S_9.out.cell 0 8 rfl rfl, S_9.out.cell 0 9 rfl rfl, (S_9.out.below.cell (p := ⟨g2, o2 + q * 6, none⟩) hg2).trans x_0, (S_9.out.below.cell (p := ⟨g2, o2 + q * 6 + 1, none⟩) hg2).trans x_1, (S_9.out.below.cell (p := ⟨g2, o2 + q * 6 + 2, none⟩) hg2).trans x_2, (S_9.out.below.cell (p := ⟨g2, o2 + q * 6 + 3, none⟩) hg2).trans x_3, (S_9.out.below.cell (p := ⟨g2, o2 + q * 6 + 4, none⟩) hg2).trans x_4, (S_9.out.below.cell (p := ⟨g2, o2 + q * 6 + 5, none⟩) hg2).trans x_5⟩) (fun hHeld14 => ?_)
             clear hK K
             try simp only [pm, s0, sS]
             refine tkH 15 ?_ ⟨some 44, .fieldAddr 50 (.tmp 6) 0, 0, "l08_star.go:86", #[⟨0, .phase⟩, ⟨1, .phase⟩, ⟨2, .phase⟩, ⟨3, .phase⟩, ⟨4, .phase⟩, ⟨5, .phase⟩, ⟨6, .phase⟩, ⟨7, .phase⟩, ⟨8, .phase⟩, ⟨9, .phase⟩, ⟨10, .phase⟩, ⟨11, .phase⟩, ⟨12, .phase⟩, ⟨13, .phase⟩, ⟨14, .phase⟩], none⟩ ?_ ?_
             rotate_left
             · intro w9 hSw; (try dsimp only at hSw); go_simp; try with_reducible rfl
             try simp only [pm, s0, sS]
             refine wpAnyH_ready (rs := [16]) (by kernel_rfl) (by simp) ?_
             refine AllReadyH.cons (o := ⟨none, .store 32 (.tmp 44) (.tmp 43), 0, "l08_star.go:86", #[⟨15, .data⟩, ⟨14, .data⟩, ⟨14, .chain⟩, ⟨0, .phase⟩, ⟨1, .phase⟩, ⟨2, .phase⟩, ⟨3, .phase⟩, ⟨4, .phase⟩, ⟨5, .phase⟩, ⟨6, .phase⟩, ⟨7, .phase⟩, ⟨8, .phase⟩, ⟨9, .phase⟩, ⟨10, .phase⟩, ⟨11, .phase⟩, ⟨12, .phase⟩, ⟨13, .phase⟩, ⟨14, .phase⟩], none⟩) rfl (fun K hK => ?_) AllReadyH.nil
             rw [if_pos (by rfl)]
             refine wp_store_mid _ _ _ rfl _ _ (List.toArray [.bool (X.add (ZP.mul (GP.add ZQ))).s, (.slice Af3 nf3 cf3), (.slice Bf3 mf3 df3)]) rfl rfl (S_9.out.there9 1 0 (n := 3) rfl (by simp)) size_rat9 (all_oneCell_toArray (cs := [.bool (X.add (ZP.mul (GP.add ZQ))).s, (.slice Af3 nf3 cf3), (.slice Bf3 mf3 df3)]) (List.all_eq_true.mp rfl)) ?_
             simp only [Act.put]
             have S_10 := Lib.hid (show St w (wf3.setCells w3.heap.size 0 [.bool (X.add (ZP.mul (GP.add ZQ))).s, (.slice Af3 nf3 cf3), (.slice Bf3 mf3 df3)]) [(wr.heap.size, [.int .i64 (q : Int), .bool ZP.s, (.slice a0 n0 c0), (.slice a1 n1 c1), .bool ZQ.s, (.slice a2 n2 c2), (.slice a3 n3 c3), .bool ZR.s, (.slice a4 n4 c4), (.slice a5 n5 c5)]), (w3.heap.size, [.bool (X.add (ZP.mul (GP.add ZQ))).s, (.slice Af3 nf3 cf3), (.slice Bf3 mf3 df3), .bool Y.s, (.slice Ay ny cy), (.slice By my dy)]), (w.heap.size + 1, [.bool false, .slice none 0 0, .slice none 0 0, .bool false, .slice none 0 0, .slice none 0 0]), (w.heap.size, [.int .i64 N, .bool T.s, t0, t1, (.slice (some ⟨g1, o1, none⟩) n c)])] [[((.slice Af3 nf3 cf3), ints (X.add (ZP.mul (GP.add ZQ))).xs), ((.slice Bf3 mf3 df3), ints (X.add (ZP.mul (GP.add ZQ))).ys)], [((.slice Af2 nf2 cf2), ints (ZP.mul (GP.add ZQ)).xs), ((.slice Bf2 mf2 df2), ints (ZP.mul (GP.add ZQ)).ys)], [((.slice Af1 nf1 cf1), ints (GP.add ZQ).xs), ((.slice Bf1 mf1 df1), ints (GP.add ZQ).ys)], [((.slice Ay ny cy), ints Y.xs), ((.slice By my dy), ints Y.ys)], [((.slice Ax nx cx), ints X.xs), ((.slice Bx mx dx), ints X.ys)]] from S_9.out.seg9 (k := 1) (X := []) (old := [.bool X.s, (.slice Ax nx cx), (.slice Bx mx dx)]) (us := [.bool (X.add (ZP.mul (GP.add ZQ))).s, (.slice Af3 nf3 cf3), (.slice Bf3 mf3 df3)]) (rest := [.bool Y.s, (.slice Ay ny cy), (.slice By my dy)]) (m := 0) rfl rfl rfl)
             clear S_9
             refine hK.out _ _ (⟨S_10.out.cell 0 0 rfl rfl, S_10.out.cell 0 1 rfl rfl, S_10.out.cell 0 2 rfl rfl, S_10.out.cell 0 3 rfl rfl, S_10.out.cell 0 4 rfl rfl, S_10.out.cell 0 5 rfl rfl, S_10.out.cell 0 6 rfl rfl, S_10.out.cell 0 7 rfl rfl, S_10.out.cell 0 8 rfl rfl, S_10.out.cell 0 9 rfl rfl, (S_10.out.below.cell (p := ⟨g2, o2 + q * 6, none⟩) hg2).trans x_0, (S_10.out.below.cell (p := ⟨g2, o2 + q * 6 + 1, none⟩) hg2).trans x_1, (S_10.out.below.cell (p := ⟨g2, o2 + q * 6 + 2, none⟩) hg2).trans x_2, (S_10.out.below.cell (p := ⟨g2, o2 + q * 6 + 3, none⟩) hg2).trans x_3, (S_10.out.below.cell (p := ⟨g2, o2 + q * 6 + 4, none⟩) hg2).trans x_4, (S_10.out.below.cell (p := ⟨g2, o2 + q * 6 + 5, none⟩) hg2).trans x_5⟩) (fun hHeld16 => ?_)
             clear hK K
             try simp only [pm, s0, sS]
             refine wpAnyH_done (by kernel_rfl) ?_ _
             refine NoPanic.normal ?_
             go_wp2_with fail
             go_meet
             refine ⟨Af3, nf3, cf3, Bf3, mf3, df3, ?_⟩
             exact ((S_10.out.drop 2).drop 1)
           refine AllReadyH.cons (o := ⟨some 41, .call { callee := .value (.func 30), args := #[.tmp 38, .tmp 40], argTypes := #[32, 32] }, 32, "l08_star.go:86", #[⟨9, .data⟩, ⟨11, .data⟩], none⟩) rfl (fun K hK => ?_) ?_
           · go_simp
             go_at_call 30
             refine (ratAdd_s GP ZQ (.slice e0 m0 j0) (.slice e1 m1 j1) (.slice a2 n2 c2) (.slice a3 n3 c3) _ (HRY.out.below S_6.out.drew.below (GP, .slice e0 m0 j0, .slice e1 m1 j1) (by simp)) (HR.out.below S_6.out.drew.below (ZQ, .slice a2 n2 c2, .slice a3 n3 c3) (by simp))).mono ?_
             rintro e wf1 ⟨vf1, uf1, rfl, ho, hb⟩
             obtain ⟨Af1, nf1, cf1, rfl⟩ := (ho.at_ 0 rfl).shape3
             obtain ⟨Bf1, mf1, df1, rfl⟩ := (ho.at_ 1 rfl).shape3
             have S_7 := Lib.hid (S_6.out.drew.rows ho hb)
             clear S_6 ho hb
             refine hK.out _ _ (⟨S_7.out.cell 0 0 rfl rfl, S_7.out.cell 0 1 rfl rfl, S_7.out.cell 0 2 rfl rfl, S_7.out.cell 0 3 rfl rfl, S_7.out.cell 0 4 rfl rfl, S_7.out.cell 0 5 rfl rfl, S_7.out.cell 0 6 rfl rfl, S_7.out.cell 0 7 rfl rfl, S_7.out.cell 0 8 rfl rfl, S_7.out.cell 0 9 rfl rfl, (S_7.out.below.cell (p := ⟨g2, o2 + q * 6, none⟩) hg2).trans x_0, (S_7.out.below.cell (p := ⟨g2, o2 + q * 6 + 1, none⟩) hg2).trans x_1, (S_7.out.below.cell (p := ⟨g2, o2 + q * 6 + 2, none⟩) hg2).trans x_2, (S_7.out.below.cell (p := ⟨g2, o2 + q * 6 + 3, none⟩) hg2).trans x_3, (S_7.out.below.cell (p := ⟨g2, o2 + q * 6 + 4, none⟩) hg2).trans x_4, (S_7.out.below.cell (p := ⟨g2, o2 + q * 6 + 5, none⟩) hg2).trans x_5⟩) (fun hHeld12 => ?_)
             clear hK K
             try simp only [pm, s0, sS]
             refine wpAnyH_ready (rs := [1, 13]) (by kernel_rfl) (by simp) ?_
             refine AllReadyH.cons (o := ⟨some 30, .load 32 (.tmp 29), 32, "l08_star.go:86", #[⟨0, .data⟩], none⟩) rfl (fun K hK => ?_) ?_
             · have hl_0 := S_7.out.cell 1 0 rfl rfl
               have hl_1 := S_7.out.cell 1 1 rfl rfl
               have hl_2 := S_7.out.cell 1 2 rfl rfl
               go_simp
               clear hl_0 hl_1 hl_2
               refine hK.out _ _ (⟨S_7.out.cell 0 0 rfl rfl, S_7.out.cell 0 1 rfl rfl, S_7.out.cell 0 2 rfl rfl, S_7.out.cell 0 3 rfl rfl, S_7.out.cell 0 4 rfl rfl, S_7.out.cell 0 5 rfl rfl, S_7.out.cell 0 6 rfl rfl, S_7.out.cell 0 7 rfl rfl, S_7.out.cell 0 8 rfl rfl, S_7.out.cell 0 9 rfl rfl, (S_7.out.below.cell (p := ⟨g2, o2 + q * 6, none⟩) hg2).trans x_0, (S_7.out.below.cell (p := ⟨g2, o2 + q * 6 + 1, none⟩) hg2).trans x_1, (S_7.out.below.cell (p := ⟨g2, o2 + q * 6 + 2, none⟩) hg2).trans x_2, (S_7.out.below.cell (p := ⟨g2, o2 + q * 6 + 3, none⟩) hg2).trans x_3, (S_7.out.below.cell (p := ⟨g2, o2 + q * 6 + 4, none⟩) hg2).trans x_4, (S_7.out.below.cell (p := ⟨g2, o2 + q * 6 + 5, none⟩) hg2).trans x_5⟩) (fun hHeld1 => ?_)
               clear hK K
               try simp only [pm, s0, sS]
               refine wpAnyH_ready (rs := [13]) (by kernel_rfl) (by simp) ?_
               refine AllReadyH.cons (o := ⟨some 42, .call { callee := .value (.func 32), args := #[.tmp 32, .tmp 41], argTypes := #[32, 32] }, 32, "l08_star.go:86", #[⟨3, .data⟩, ⟨12, .data⟩, ⟨12, .chain⟩], none⟩) rfl (fun K hK => ?_) AllReadyH.nil
               go_simp
               go_at_call 32
               refine (ratMul_s ZP (GP.add ZQ) (.slice a0 n0 c0) (.slice a1 n1 c1) (.slice Af1 nf1 cf1) (.slice Bf1 mf1 df1) _ (HR.out.below S_7.out.below (ZP, .slice a0 n0 c0, .slice a1 n1 c1) (by simp)) (S_7.out.fr 0 0 rfl rfl rfl)).mono ?_
               rintro e wf2 ⟨vf2, uf2, rfl, ho, hb⟩
               obtain ⟨Af2, nf2, cf2, rfl⟩ := (ho.at_ 0 rfl).shape3
               obtain ⟨Bf2, mf2, df2, rfl⟩ := (ho.at_ 1 rfl).shape3
               have S_8 := Lib.hid (S_7.out.rows ho hb)
               clear S_7 ho hb
               refine hK.out _ _ (⟨S_8.out.cell 0 0 rfl rfl, S_8.out.cell 0 1 rfl rfl, S_8.out.cell 0 2 rfl rfl, S_8.out.cell 0 3 rfl rfl, S_8.out.cell 0 4 rfl rfl, S_8.out.cell 0 5 rfl rfl, S_8.out.cell 0 6 rfl rfl, S_8.out.cell 0 7 rfl rfl, S_8.out.cell 0 8 rfl rfl, S_8.out.cell 0 9 rfl rfl, (S_8.out.below.cell (p := ⟨g2, o2 + q * 6, none⟩) hg2).trans x_0, (S_8.out.below.cell (p := ⟨g2, o2 + q * 6 + 1, none⟩) hg2).trans x_1, (S_8.out.below.cell (p := ⟨g2, o2 + q * 6 + 2, none⟩) hg2).trans x_2, (S_8.out.below.cell (p := ⟨g2, o2 + q * 6 + 3, none⟩) hg2).trans x_3, (S_8.out.below.cell (p := ⟨g2, o2 + q * 6 + 4, none⟩) hg2).trans x_4, (S_8.out.below.cell (p := ⟨g2, o2 + q * 6 + 5, none⟩) hg2).trans x_5⟩) (fun hHeld13 => ?_)
               clear hK K
               try simp only [pm, s0, sS]
               refine wpAnyH_ready (rs := [14]) (by kernel_rfl) (by simp) ?_
               refine AllReadyH.cons (o := ⟨some 43, .call { callee := .value (.func 30), args := #[.tmp 30, .tmp 42], argTypes := #[32, 32] }, 32, "l08_star.go:86", #[⟨1, .data⟩, ⟨13, .data⟩, ⟨13, .chain⟩], none⟩) rfl (fun K hK => ?_) AllReadyH.nil
               go_simp
               go_at_call 30
               refine (ratAdd_s X (ZP.mul (GP.add ZQ)) (.slice Ax nx cx) (.slice Bx mx dx) (.slice Af2 nf2 cf2) (.slice Bf2 mf2 df2) _ (S_8.out.fr 3 0 rfl rfl rfl) (S_8.out.fr 0 0 rfl rfl rfl)).mono ?_
               rintro e wf3 ⟨vf3, uf3, rfl, ho, hb⟩
               obtain ⟨Af3, nf3, cf3, rfl⟩ := (ho.at_ 0 rfl).shape3
               obtain ⟨Bf3, mf3, df3, rfl⟩ := (ho.at_ 1 rfl).shape3
               have S_9 := Lib.hid (S_8.out.rows ho hb)
               clear S_8 ho hb
               refine hK.out _ _ (⟨S_9.out.cell 0 0 rfl rfl, S_9.out.cell 0 1 rfl rfl, S_9.out.cell 0 2 rfl rfl, S_9.out.cell 0 3 rfl rfl, S_9.out.cell 0 4 rfl rfl, S_9.out.cell 0 5 rfl rfl, S_9.out.cell 0 6 rfl rfl, S_9.out.cell 0 7 rfl rfl, S_9.out.cell 0 8 rfl rfl, S_9.out.cell 0 9 rfl rfl, (S_9.out.below.cell (p := ⟨g2, o2 + q * 6, none⟩) hg2).trans x_0, (S_9.out.below.cell (p := ⟨g2, o2 + q * 6 + 1, none⟩) hg2).trans x_1, (S_9.out.below.cell (p := ⟨g2, o2 + q * 6 + 2, none⟩) hg2).trans x_2, (S_9.out.below.cell (p := ⟨g2, o2 + q * 6 + 3, none⟩) hg2).trans x_3, (S_9.out.below.cell (p := ⟨g2, o2 + q * 6 + 4, none⟩) hg2).trans x_4, (S_9.out.below.cell (p := ⟨g2, o2 + q * 6 + 5, none⟩) hg2).trans x_5⟩) (fun hHeld14 => ?_)
               clear hK K
               try simp only [pm, s0, sS]
               refine tkH 15 ?_ ⟨some 44, .fieldAddr 50 (.tmp 6) 0, 0, "l08_star.go:86", #[⟨0, .phase⟩, ⟨1, .phase⟩, ⟨2, .phase⟩, ⟨3, .phase⟩, ⟨4, .phase⟩, ⟨5, .phase⟩, ⟨6, .phase⟩, ⟨7, .phase⟩, ⟨8, .phase⟩, ⟨9, .phase⟩, ⟨10, .phase⟩, ⟨11, .phase⟩, ⟨12, .phase⟩, ⟨13, .phase⟩, ⟨14, .phase⟩], none⟩ ?_ ?_
               rotate_left
               · intro w9 hSw; (try dsimp only at hSw); go_simp; try with_reducible rfl
               try simp only [pm, s0, sS]
               refine wpAnyH_ready (rs := [16]) (by kernel_rfl) (by simp) ?_
               refine AllReadyH.cons (o := ⟨none, .store 32 (.tmp 44) (.tmp 43), 0, "l08_star.go:86", #[⟨15, .data⟩, ⟨14, .data⟩, ⟨14, .chain⟩, ⟨0, .phase⟩, ⟨1, .phase⟩, ⟨2, .phase⟩, ⟨3, .phase⟩, ⟨4, .phase⟩, ⟨5, .phase⟩, ⟨6, .phase⟩, ⟨7, .phase⟩, ⟨8, .phase⟩, ⟨9, .phase⟩, ⟨10, .phase⟩, ⟨11, .phase⟩, ⟨12, .phase⟩, ⟨13, .phase⟩, ⟨14, .phase⟩], none⟩) rfl (fun K hK => ?_) AllReadyH.nil
               rw [if_pos (by rfl)]
               refine wp_store_mid _ _ _ rfl _ _ (List.toArray [.bool (X.add (ZP.mul (GP.add ZQ))).s, (.slice Af3 nf3 cf3), (.slice Bf3 mf3 df3)]) rfl rfl (S_9.out.there9 1 0 (n := 3) rfl (by simp)) size_rat9 (all_oneCell_toArray (cs := [.bool (X.add (ZP.mul (GP.add ZQ))).s, (.slice Af3 nf3 cf3), (.slice Bf3 mf3 df3)]) (List.all_eq_true.mp rfl)) ?_
               simp only [Act.put]
               have S_10 := Lib.hid (show St w (wf3.setCells w3.heap.size 0 [.bool (X.add (ZP.mul (GP.add ZQ))).s, (.slice Af3 nf3 cf3), (.slice Bf3 mf3 df3)]) [(wr.heap.size, [.int .i64 (q : Int), .bool ZP.s, (.slice a0 n0 c0), (.slice a1 n1 c1), .bool ZQ.s, (.slice a2 n2 c2), (.slice a3 n3 c3), .bool ZR.s, (.slice a4 n4 c4), (.slice a5 n5 c5)]), (w3.heap.size, [.bool (X.add (ZP.mul (GP.add ZQ))).s, (.slice Af3 nf3 cf3), (.slice Bf3 mf3 df3), .bool Y.s, (.slice Ay ny cy), (.slice By my dy)]), (w.heap.size + 1, [.bool false, .slice none 0 0, .slice none 0 0, .bool false, .slice none 0 0, .slice none 0 0]), (w.heap.size, [.int .i64 N, .bool T.s, t0, t1, (.slice (some ⟨g1, o1, none⟩) n c)])] [[((.slice Af3 nf3 cf3), ints (X.add (ZP.mul (GP.add ZQ))).xs), ((.slice Bf3 mf3 df3), ints (X.add (ZP.mul (GP.add ZQ))).ys)], [((.slice Af2 nf2 cf2), ints (ZP.mul (GP.add ZQ)).xs), ((.slice Bf2 mf2 df2), ints (ZP.mul (GP.add ZQ)).ys)], [((.slice Af1 nf1 cf1), ints (GP.add ZQ).xs), ((.slice Bf1 mf1 df1), ints (GP.add ZQ).ys)], [((.slice Ay ny cy), ints Y.xs), ((.slice By my dy), ints Y.ys)], [((.slice Ax nx cx), ints X.xs), ((.slice Bx mx dx), ints X.ys)]] from S_9.out.seg9 (k := 1) (X := []) (old := [.bool X.s, (.slice Ax nx cx), (.slice Bx mx dx)]) (us := [.bool (X.add (ZP.mul (GP.add ZQ))).s, (.slice Af3 nf3 cf3), (.slice Bf3 mf3 df3)]) (rest := [.bool Y.s, (.slice Ay ny cy), (.slice By my dy)]) (m := 0) rfl rfl rfl)
               clear S_9
               refine hK.out _ _ (⟨S_10.out.cell 0 0 rfl rfl, S_10.out.cell 0 1 rfl rfl, S_10.out.cell 0 2 rfl rfl, S_10.out.cell 0 3 rfl rfl, S_10.out.cell 0 4 rfl rfl, S_10.out.cell 0 5 rfl rfl, S_10.out.cell 0 6 rfl rfl, S_10.out.cell 0 7 rfl rfl, S_10.out.cell 0 8 rfl rfl, S_10.out.cell 0 9 rfl rfl, (S_10.out.below.cell (p := ⟨g2, o2 + q * 6, none⟩) hg2).trans x_0, (S_10.out.below.cell (p := ⟨g2, o2 + q * 6 + 1, none⟩) hg2).trans x_1, (S_10.out.below.cell (p := ⟨g2, o2 + q * 6 + 2, none⟩) hg2).trans x_2, (S_10.out.below.cell (p := ⟨g2, o2 + q * 6 + 3, none⟩) hg2).trans x_3, (S_10.out.below.cell (p := ⟨g2, o2 + q * 6 + 4, none⟩) hg2).trans x_4, (S_10.out.below.cell (p := ⟨g2, o2 + q * 6 + 5, none⟩) hg2).trans x_5⟩) (fun hHeld16 => ?_)
               clear hK K
               try simp only [pm, s0, sS]
               refine wpAnyH_done (by kernel_rfl) ?_ _
               refine NoPanic.normal ?_
               go_wp2_with fail
               go_meet
               refine ⟨Af3, nf3, cf3, Bf3, mf3, df3, ?_⟩
               exact ((S_10.out.drop 2).drop 1)
             refine AllReadyH.cons (o := ⟨some 42, .call { callee := .value (.func 32), args := #[.tmp 32, .tmp 41], argTypes := #[32, 32] }, 32, "l08_star.go:86", #[⟨3, .data⟩, ⟨12, .data⟩, ⟨12, .chain⟩], none⟩) rfl (fun K hK => ?_) ?_
             · go_simp
               go_at_call 32
               refine (ratMul_s ZP (GP.add ZQ) (.slice a0 n0 c0) (.slice a1 n1 c1) (.slice Af1 nf1 cf1) (.slice Bf1 mf1 df1) _ (HR.out.below S_7.out.below (ZP, .slice a0 n0 c0, .slice a1 n1 c1) (by simp)) (S_7.out.fr 0 0 rfl rfl rfl)).mono ?_
               rintro e wf2 ⟨vf2, uf2, rfl, ho, hb⟩
               obtain ⟨Af2, nf2, cf2, rfl⟩ := (ho.at_ 0 rfl).shape3
               obtain ⟨Bf2, mf2, df2, rfl⟩ := (ho.at_ 1 rfl).shape3
               have S_8 := Lib.hid (S_7.out.rows ho hb)
               clear S_7 ho hb
               refine hK.out _ _ (⟨S_8.out.cell 0 0 rfl rfl, S_8.out.cell 0 1 rfl rfl, S_8.out.cell 0 2 rfl rfl, S_8.out.cell 0 3 rfl rfl, S_8.out.cell 0 4 rfl rfl, S_8.out.cell 0 5 rfl rfl, S_8.out.cell 0 6 rfl rfl, S_8.out.cell 0 7 rfl rfl, S_8.out.cell 0 8 rfl rfl, S_8.out.cell 0 9 rfl rfl, (S_8.out.below.cell (p := ⟨g2, o2 + q * 6, none⟩) hg2).trans x_0, (S_8.out.below.cell (p := ⟨g2, o2 + q * 6 + 1, none⟩) hg2).trans x_1, (S_8.out.below.cell (p := ⟨g2, o2 + q * 6 + 2, none⟩) hg2).trans x_2, (S_8.out.below.cell (p := ⟨g2, o2 + q * 6 + 3, none⟩) hg2).trans x_3, (S_8.out.below.cell (p := ⟨g2, o2 + q * 6 + 4, none⟩) hg2).trans x_4, (S_8.out.below.cell (p := ⟨g2, o2 + q * 6 + 5, none⟩) hg2).trans x_5⟩) (fun hHeld13 => ?_)
               clear hK K
               try simp only [pm, s0, sS]
               refine wpAnyH_ready (rs := [1]) (by kernel_rfl) (by simp) ?_
               refine AllReadyH.cons (o := ⟨some 30, .load 32 (.tmp 29), 32, "l08_star.go:86", #[⟨0, .data⟩], none⟩) rfl (fun K hK => ?_) AllReadyH.nil
               have hl_0 := S_8.out.cell 1 0 rfl rfl
               have hl_1 := S_8.out.cell 1 1 rfl rfl
               have hl_2 := S_8.out.cell 1 2 rfl rfl
               go_simp
               clear hl_0 hl_1 hl_2
               refine hK.out _ _ (⟨S_8.out.cell 0 0 rfl rfl, S_8.out.cell 0 1 rfl rfl, S_8.out.cell 0 2 rfl rfl, S_8.out.cell 0 3 rfl rfl, S_8.out.cell 0 4 rfl rfl, S_8.out.cell 0 5 rfl rfl, S_8.out.cell 0 6 rfl rfl, S_8.out.cell 0 7 rfl rfl, S_8.out.cell 0 8 rfl rfl, S_8.out.cell 0 9 rfl rfl, (S_8.out.below.cell (p := ⟨g2, o2 + q * 6, none⟩) hg2).trans x_0, (S_8.out.below.cell (p := ⟨g2, o2 + q * 6 + 1, none⟩) hg2).trans x_1, (S_8.out.below.cell (p := ⟨g2, o2 + q * 6 + 2, none⟩) hg2).trans x_2, (S_8.out.below.cell (p := ⟨g2, o2 + q * 6 + 3, none⟩) hg2).trans x_3, (S_8.out.below.cell (p := ⟨g2, o2 + q * 6 + 4, none⟩) hg2).trans x_4, (S_8.out.below.cell (p := ⟨g2, o2 + q * 6 + 5, none⟩) hg2).trans x_5⟩) (fun hHeld1 => ?_)
               clear hK K
               try simp only [pm, s0, sS]
               refine wpAnyH_ready (rs := [14]) (by kernel_rfl) (by simp) ?_
               refine AllReadyH.cons (o := ⟨some 43, .call { callee := .value (.func 30), args := #[.tmp 30, .tmp 42], argTypes := #[32, 32] }, 32, "l08_star.go:86", #[⟨1, .data⟩, ⟨13, .data⟩, ⟨13, .chain⟩], none⟩) rfl (fun K hK => ?_) AllReadyH.nil
               go_simp
               go_at_call 30
               refine (ratAdd_s X (ZP.mul (GP.add ZQ)) (.slice Ax nx cx) (.slice Bx mx dx) (.slice Af2 nf2 cf2) (.slice Bf2 mf2 df2) _ (S_8.out.fr 3 0 rfl rfl rfl) (S_8.out.fr 0 0 rfl rfl rfl)).mono ?_
               rintro e wf3 ⟨vf3, uf3, rfl, ho, hb⟩
               obtain ⟨Af3, nf3, cf3, rfl⟩ := (ho.at_ 0 rfl).shape3
               obtain ⟨Bf3, mf3, df3, rfl⟩ := (ho.at_ 1 rfl).shape3
               have S_9 := Lib.hid (S_8.out.rows ho hb)
               clear S_8 ho hb
               refine hK.out _ _ (⟨S_9.out.cell 0 0 rfl rfl, S_9.out.cell 0 1 rfl rfl, S_9.out.cell 0 2 rfl rfl, S_9.out.cell 0 3 rfl rfl, S_9.out.cell 0 4 rfl rfl, S_9.out.cell 0 5 rfl rfl, S_9.out.cell 0 6 rfl rfl, S_9.out.cell 0 7 rfl rfl, S_9.out.cell 0 8 rfl rfl, S_9.out.cell 0 9 rfl rfl, (S_9.out.below.cell (p := ⟨g2, o2 + q * 6, none⟩) hg2).trans x_0, (S_9.out.below.cell (p := ⟨g2, o2 + q * 6 + 1, none⟩) hg2).trans x_1, (S_9.out.below.cell (p := ⟨g2, o2 + q * 6 + 2, none⟩) hg2).trans x_2, (S_9.out.below.cell (p := ⟨g2, o2 + q * 6 + 3, none⟩) hg2).trans x_3, (S_9.out.below.cell (p := ⟨g2, o2 + q * 6 + 4, none⟩) hg2).trans x_4, (S_9.out.below.cell (p := ⟨g2, o2 + q * 6 + 5, none⟩) hg2).trans x_5⟩) (fun hHeld14 => ?_)
               clear hK K
               try simp only [pm, s0, sS]
               refine tkH 15 ?_ ⟨some 44, .fieldAddr 50 (.tmp 6) 0, 0, "l08_star.go:86", #[⟨0, .phase⟩, ⟨1, .phase⟩, ⟨2, .phase⟩, ⟨3, .phase⟩, ⟨4, .phase⟩, ⟨5, .phase⟩, ⟨6, .phase⟩, ⟨7, .phase⟩, ⟨8, .phase⟩, ⟨9, .phase⟩, ⟨10, .phase⟩, ⟨11, .phase⟩, ⟨12, .phase⟩, ⟨13, .phase⟩, ⟨14, .phase⟩], none⟩ ?_ ?_
               rotate_left
               · intro w9 hSw; (try dsimp only at hSw); go_simp; try with_reducible rfl
               try simp only [pm, s0, sS]
               refine wpAnyH_ready (rs := [16]) (by kernel_rfl) (by simp) ?_
               refine AllReadyH.cons (o := ⟨none, .store 32 (.tmp 44) (.tmp 43), 0, "l08_star.go:86", #[⟨15, .data⟩, ⟨14, .data⟩, ⟨14, .chain⟩, ⟨0, .phase⟩, ⟨1, .phase⟩, ⟨2, .phase⟩, ⟨3, .phase⟩, ⟨4, .phase⟩, ⟨5, .phase⟩, ⟨6, .phase⟩, ⟨7, .phase⟩, ⟨8, .phase⟩, ⟨9, .phase⟩, ⟨10, .phase⟩, ⟨11, .phase⟩, ⟨12, .phase⟩, ⟨13, .phase⟩, ⟨14, .phase⟩], none⟩) rfl (fun K hK => ?_) AllReadyH.nil
               rw [if_pos (by rfl)]
               refine wp_store_mid _ _ _ rfl _ _ (List.toArray [.bool (X.add (ZP.mul (GP.add ZQ))).s, (.slice Af3 nf3 cf3), (.slice Bf3 mf3 df3)]) rfl rfl (S_9.out.there9 1 0 (n := 3) rfl (by simp)) size_rat9 (all_oneCell_toArray (cs := [.bool (X.add (ZP.mul (GP.add ZQ))).s, (.slice Af3 nf3 cf3), (.slice Bf3 mf3 df3)]) (List.all_eq_true.mp rfl)) ?_
               simp only [Act.put]
               have S_10 := Lib.hid (show St w (wf3.setCells w3.heap.size 0 [.bool (X.add (ZP.mul (GP.add ZQ))).s, (.slice Af3 nf3 cf3), (.slice Bf3 mf3 df3)]) [(wr.heap.size, [.int .i64 (q : Int), .bool ZP.s, (.slice a0 n0 c0), (.slice a1 n1 c1), .bool ZQ.s, (.slice a2 n2 c2), (.slice a3 n3 c3), .bool ZR.s, (.slice a4 n4 c4), (.slice a5 n5 c5)]), (w3.heap.size, [.bool (X.add (ZP.mul (GP.add ZQ))).s, (.slice Af3 nf3 cf3), (.slice Bf3 mf3 df3), .bool Y.s, (.slice Ay ny cy), (.slice By my dy)]), (w.heap.size + 1, [.bool false, .slice none 0 0, .slice none 0 0, .bool false, .slice none 0 0, .slice none 0 0]), (w.heap.size, [.int .i64 N, .bool T.s, t0, t1, (.slice (some ⟨g1, o1, none⟩) n c)])] [[((.slice Af3 nf3 cf3), ints (X.add (ZP.mul (GP.add ZQ))).xs), ((.slice Bf3 mf3 df3), ints (X.add (ZP.mul (GP.add ZQ))).ys)], [((.slice Af2 nf2 cf2), ints (ZP.mul (GP.add ZQ)).xs), ((.slice Bf2 mf2 df2), ints (ZP.mul (GP.add ZQ)).ys)], [((.slice Af1 nf1 cf1), ints (GP.add ZQ).xs), ((.slice Bf1 mf1 df1), ints (GP.add ZQ).ys)], [((.slice Ay ny cy), ints Y.xs), ((.slice By my dy), ints Y.ys)], [((.slice Ax nx cx), ints X.xs), ((.slice Bx mx dx), ints X.ys)]] from S_9.out.seg9 (k := 1) (X := []) (old := [.bool X.s, (.slice Ax nx cx), (.slice Bx mx dx)]) (us := [.bool (X.add (ZP.mul (GP.add ZQ))).s, (.slice Af3 nf3 cf3), (.slice Bf3 mf3 df3)]) (rest := [.bool Y.s, (.slice Ay ny cy), (.slice By my dy)]) (m := 0) rfl rfl rfl)
               clear S_9
               refine hK.out _ _ (⟨S_10.out.cell 0 0 rfl rfl, S_10.out.cell 0 1 rfl rfl, S_10.out.cell 0 2 rfl rfl, S_10.out.cell 0 3 rfl rfl, S_10.out.cell 0 4 rfl rfl, S_10.out.cell 0 5 rfl rfl, S_10.out.cell 0 6 rfl rfl, S_10.out.cell 0 7 rfl rfl, S_10.out.cell 0 8 rfl rfl, S_10.out.cell 0 9 rfl rfl, (S_10.out.below.cell (p := ⟨g2, o2 + q * 6, none⟩) hg2).trans x_0, (S_10.out.below.cell (p := ⟨g2, o2 + q * 6 + 1, none⟩) hg2).trans x_1, (S_10.out.below.cell (p := ⟨g2, o2 + q * 6 + 2, none⟩) hg2).trans x_2, (S_10.out.below.cell (p := ⟨g2, o2 + q * 6 + 3, none⟩) hg2).trans x_3, (S_10.out.below.cell (p := ⟨g2, o2 + q * 6 + 4, none⟩) hg2).trans x_4, (S_10.out.below.cell (p := ⟨g2, o2 + q * 6 + 5, none⟩) hg2).trans x_5⟩) (fun hHeld16 => ?_)
               clear hK K
               try simp only [pm, s0, sS]
               refine wpAnyH_done (by kernel_rfl) ?_ _
               refine NoPanic.normal ?_
               go_wp2_with fail
               go_meet
               refine ⟨Af3, nf3, cf3, Bf3, mf3, df3, ?_⟩
               exact ((S_10.out.drop 2).drop 1)
             exact AllReadyH.nil
           exact AllReadyH.nil
         obtain ⟨Af3, nf3, cf3, Bf3, mf3, df3, hst⟩ := hcut
         have S_66 := Lib.hid hst
         clear hst S_6
         obtain ⟨v1, hv1⟩ : ∃ u, wc = u := ⟨_, rfl⟩
         rw [hv1] at S_66 ⊢
         clear hv1
         have hk_p_0_66 := S_66.out.cell 0 0 rfl rfl
         have hk_p_1_66 := S_66.out.cell 0 1 rfl rfl
         have hk_p_2_66 := S_66.out.cell 0 2 rfl rfl
         have hk_p_3_66 := S_66.out.cell 0 3 rfl rfl
         have hk_p_4_66 := S_66.out.cell 0 4 rfl rfl
         have hk_p_5_66 := S_66.out.cell 0 5 rfl rfl
         have hk_p_6_66 := S_66.out.cell 0 6 rfl rfl
         have hk_p_7_66 := S_66.out.cell 0 7 rfl rfl
         have hk_p_8_66 := S_66.out.cell 0 8 rfl rfl
         have hk_p_9_66 := S_66.out.cell 0 9 rfl rfl
         have hk_out_0_66 := S_66.out.cell 1 0 rfl rfl
         have hk_out_1_66 := S_66.out.cell 1 1 rfl rfl
         have hk_out_2_66 := S_66.out.cell 1 2 rfl rfl
         have hk_out_3_66 := S_66.out.cell 1 3 rfl rfl
         have hk_out_4_66 := S_66.out.cell 1 4 rfl rfl
         have hk_out_5_66 := S_66.out.cell 1 5 rfl rfl
         go_upto_region 10 with fail
         clear hk_p_0_66 hk_p_1_66 hk_p_2_66 hk_p_3_66 hk_p_4_66 hk_p_5_66 hk_p_6_66 hk_p_7_66 hk_p_8_66 hk_p_9_66 hk_out_0_66 hk_out_1_66 hk_out_2_66 hk_out_3_66 hk_out_4_66 hk_out_5_66
         refine wp_region_noPanic ?_
         refine wp_region_held_drew (S := (fun w' => w'.cell? ⟨wr.heap.size, 0, none⟩ = some (.int .i64 (q : Int)) ∧ w'.cell? ⟨wr.heap.size, 1, none⟩ = some (.bool ZP.s) ∧ w'.cell? ⟨wr.heap.size, 2, none⟩ = some ((.slice a0 n0 c0)) ∧ w'.cell? ⟨wr.heap.size, 3, none⟩ = some ((.slice a1 n1 c1)) ∧ w'.cell? ⟨wr.heap.size, 4, none⟩ = some (.bool ZQ.s) ∧ w'.cell? ⟨wr.heap.size, 5, none⟩ = some ((.slice a2 n2 c2)) ∧ w'.cell? ⟨wr.heap.size, 6, none⟩ = some ((.slice a3 n3 c3)) ∧ w'.cell? ⟨wr.heap.size, 7, none⟩ = some (.bool ZR.s) ∧ w'.cell? ⟨wr.heap.size, 8, none⟩ = some ((.slice a4 n4 c4)) ∧ w'.cell? ⟨wr.heap.size, 9, none⟩ = some ((.slice a5 n5 c5)) ∧ w'.cell? ⟨g2, o2 + q * 6, none⟩ = some (.bool GP.s) ∧ w'.cell? ⟨g2, o2 + q * 6 + 1, none⟩ = some ((.slice e0 m0 j0)) ∧ w'.cell? ⟨g2, o2 + q * 6 + 2, none⟩ = some ((.slice e1 m1 j1)) ∧ w'.cell? ⟨g2, o2 + q * 6 + 3, none⟩ = some (.bool GQ.s) ∧ w'.cell? ⟨g2, o2 + q * 6 + 4, none⟩ = some ((.slice e2 m2 j2)) ∧ w'.cell? ⟨g2, o2 + q * 6 + 5, none⟩ = some ((.slice e3 m3 j3)))) (by kernel_rfl) ?_ (fun hHeld => ?_)
         · exact ⟨S_66.out.drew.cell 0 0 rfl rfl, S_66.out.drew.cell 0 1 rfl rfl, S_66.out.drew.cell 0 2 rfl rfl, S_66.out.drew.cell 0 3 rfl rfl, S_66.out.drew.cell 0 4 rfl rfl, S_66.out.drew.cell 0 5 rfl rfl, S_66.out.drew.cell 0 6 rfl rfl, S_66.out.drew.cell 0 7 rfl rfl, S_66.out.drew.cell 0 8 rfl rfl, S_66.out.drew.cell 0 9 rfl rfl, (S_66.out.drew.below.cell (p := ⟨g2, o2 + q * 6, none⟩) hg2).trans x_0, (S_66.out.drew.below.cell (p := ⟨g2, o2 + q * 6 + 1, none⟩) hg2).trans x_1, (S_66.out.drew.below.cell (p := ⟨g2, o2 + q * 6 + 2, none⟩) hg2).trans x_2, (S_66.out.drew.below.cell (p := ⟨g2, o2 + q * 6 + 3, none⟩) hg2).trans x_3, (S_66.out.drew.below.cell (p := ⟨g2, o2 + q * 6 + 4, none⟩) hg2).trans x_4, (S_66.out.drew.below.cell (p := ⟨g2, o2 + q * 6 + 5, none⟩) hg2).trans x_5⟩
         refine tkH 0 ?_ ⟨some 45, .fieldAddr 50 (.tmp 6) 1, 0, "l08_star.go:87", #[], none⟩ ?_ ?_
         rotate_left
         · intro w9 hSw; (try dsimp only at hSw); go_simp; try with_reducible rfl
         try simp only [pm, s0, sS]
         refine tkH 2 ?_ ⟨some 47, .fieldAddr 84 (.tmp 8) 1, 0, "l08_star.go:87", #[], none⟩ ?_ ?_
         rotate_left
         · intro w9 hSw; (try dsimp only at hSw); go_simp; try with_reducible rfl
         try simp only [pm, s0, sS]
         refine tkH 3 ?_ ⟨some 48, .load 32 (.tmp 47), 32, "l08_star.go:87", #[⟨2, .data⟩], none⟩ ?_ ?_
         rotate_left
         · intro w9 hSw; (try dsimp only at hSw); go_simp; try with_reducible rfl
         try simp only [pm, s0, sS]
         refine tkH 4 ?_ ⟨some 49, .move (.tmp 1), 57, "l08_star.go:87", #[], none⟩ ?_ ?_
         rotate_left
         · intro w9 hSw; (try dsimp only at hSw); go_simp; try with_reducible rfl
         try simp only [pm, s0, sS]
         refine tkH 5 ?_ ⟨some 50, .fieldAddr 84 (.tmp 8) 0, 0, "l08_star.go:87", #[], none⟩ ?_ ?_
         rotate_left
         · intro w9 hSw; (try dsimp only at hSw); go_simp; try with_reducible rfl
         try simp only [pm, s0, sS]
         refine tkH 6 ?_ ⟨some 51, .load 3 (.tmp 50), 3, "l08_star.go:87", #[⟨5, .data⟩], none⟩ ?_ ?_
         rotate_left
         · intro w9 hSw; (try dsimp only at hSw); go_simp; try with_reducible rfl
         try simp only [pm, s0, sS]
         refine tkH 7 ?_ ⟨some 52, .indexAddr 57 (.tmp 49) (.tmp 51), 0, "l08_star.go:87", #[⟨4, .data⟩, ⟨6, .data⟩], none⟩ ?_ ?_
         rotate_left
         · intro w9 hSw; (try dsimp only at hSw); go_simp; try with_reducible rfl
         try simp only [pm, s0, sS]
         refine tkH 8 ?_ ⟨some 53, .fieldAddr 50 (.tmp 52) 1, 0, "l08_star.go:87", #[⟨7, .data⟩], none⟩ ?_ ?_
         rotate_left
         · intro w9 hSw; (try dsimp only at hSw); go_simp; try with_reducible rfl
         try simp only [pm, s0, sS]
         refine tkH 9 ?_ ⟨some 54, .load 32 (.tmp 53), 32, "l08_star.go:87", #[⟨8, .data⟩], none⟩ ?_ ?_
         rotate_left
         · intro w9 hSw; (try dsimp only at hSw); go_simp; try with_reducible rfl
         try simp only [pm, s0, sS]
         refine tkH 10 ?_ ⟨some 55, .fieldAddr 84 (.tmp 8) 3, 0, "l08_star.go:87", #[], none⟩ ?_ ?_
         rotate_left
         · intro w9 hSw; (try dsimp only at hSw); go_simp; try with_reducible rfl
         try simp only [pm, s0, sS]
         refine tkH 11 ?_ ⟨some 56, .load 32 (.tmp 55), 32, "l08_star.go:87", #[⟨10, .data⟩], none⟩ ?_ ?_
         rotate_left
         · intro w9 hSw; (try dsimp only at hSw); go_simp; try with_reducible rfl
         try simp only [pm, s0, sS]
         refine wpAnyH_ready (rs := [1, 12]) (by kernel_rfl) (by simp) ?_
         refine AllReadyH.cons (o := ⟨some 46, .load 32 (.tmp 45), 32, "l08_star.go:87", #[⟨0, .data⟩], none⟩) rfl (fun K hK => ?_) ?_
         · have hl_0 := S_66.out.drew.cell 1 3 rfl rfl
           have hl_1 := S_66.out.drew.cell 1 4 rfl rfl
           have hl_2 := S_66.out.drew.cell 1 5 rfl rfl
           go_simp
           clear hl_0 hl_1 hl_2
           refine hK.out _ _ (⟨S_66.out.drew.cell 0 0 rfl rfl, S_66.out.drew.cell 0 1 rfl rfl, S_66.out.drew.cell 0 2 rfl rfl, S_66.out.drew.cell 0 3 rfl rfl, S_66.out.drew.cell 0 4 rfl rfl, S_66.out.drew.cell 0 5 rfl rfl, S_66.out.drew.cell 0 6 rfl rfl, S_66.out.drew.cell 0 7 rfl rfl, S_66.out.drew.cell 0 8 rfl rfl, S_66.out.drew.cell 0 9 rfl rfl, (S_66.out.drew.below.cell (p := ⟨g2, o2 + q * 6, none⟩) hg2).trans x_0, (S_66.out.drew.below.cell (p := ⟨g2, o2 + q * 6 + 1, none⟩) hg2).trans x_1, (S_66.out.drew.below.cell (p := ⟨g2, o2 + q * 6 + 2, none⟩) hg2).trans x_2, (S_66.out.drew.below.cell (p := ⟨g2, o2 + q * 6 + 3, none⟩) hg2).trans x_3, (S_66.out.drew.below.cell (p := ⟨g2, o2 + q * 6 + 4, none⟩) hg2).trans x_4, (S_66.out.drew.below.cell (p := ⟨g2, o2 + q * 6 + 5, none⟩) hg2).trans x_5⟩) (fun hHeld1 => ?_)
           clear hK K
           try simp only [pm, s0, sS]
           refine wpAnyH_ready (rs := [12]) (by kernel_rfl) (by simp) ?_
           refine AllReadyH.cons (o := ⟨some 57, .call { callee := .value (.func 30), args := #[.tmp 54, .tmp 56], argTypes := #[32, 32] }, 32, "l08_star.go:87", #[⟨9, .data⟩, ⟨11, .data⟩], none⟩) rfl (fun K hK => ?_) AllReadyH.nil
           go_simp
           go_at_call 30
           refine (ratAdd_s GQ ZR (.slice e2 m2 j2) (.slice e3 m3 j3) (.slice a4 n4 c4) (.slice a5 n5 c5) _ (HRY.out.below S_66.out.drew.below (GQ, .slice e2 m2 j2, .slice e3 m3 j3) (by simp)) (HR.out.below S_66.out.drew.below (ZR, .slice a4 n4 c4, .slice a5 n5 c5) (by simp))).mono ?_
           rintro e wg1 ⟨vg1, ug1, rfl, ho, hb⟩
           obtain ⟨Ag1, ng1, cg1, rfl⟩ := (ho.at_ 0 rfl).shape3
           obtain ⟨Bg1, mg1, dg1, rfl⟩ := (ho.at_ 1 rfl).shape3
           have S_67 := Lib.hid (S_66.out.drew.rows ho hb)
           clear S_66 ho hb
           refine hK.out _ _ (⟨S_67.out.cell 0 0 rfl rfl, S_67.out.cell 0 1 rfl rfl, S_67.out.cell 0 2 rfl rfl, S_67.out.cell 0 3 rfl rfl, S_67.out.cell 0 4 rfl rfl, S_67.out.cell 0 5 rfl rfl, S_67.out.cell 0 6 rfl rfl, S_67.out.cell 0 7 rfl rfl, S_67.out.cell 0 8 rfl rfl, S_67.out.cell 0 9 rfl rfl, (S_67.out.below.cell (p := ⟨g2, o2 + q * 6, none⟩) hg2).trans x_0, (S_67.out.below.cell (p := ⟨g2, o2 + q * 6 + 1, none⟩) hg2).trans x_1, (S_67.out.below.cell (p := ⟨g2, o2 + q * 6 + 2, none⟩) hg2).trans x_2, (S_67.out.below.cell (p := ⟨g2, o2 + q * 6 + 3, none⟩) hg2).trans x_3, (S_67.out.below.cell (p := ⟨g2, o2 + q * 6 + 4, none⟩) hg2).trans x_4, (S_67.out.below.cell (p := ⟨g2, o2 + q * 6 + 5, none⟩) hg2).trans x_5⟩) (fun hHeld12 => ?_)
           clear hK K
           try simp only [pm, s0, sS]
           refine wpAnyH_ready (rs := [13]) (by kernel_rfl) (by simp) ?_
           refine AllReadyH.cons (o := ⟨some 58, .call { callee := .value (.func 32), args := #[.tmp 48, .tmp 57], argTypes := #[32, 32] }, 32, "l08_star.go:87", #[⟨3, .data⟩, ⟨12, .data⟩, ⟨12, .chain⟩], none⟩) rfl (fun K hK => ?_) AllReadyH.nil
           go_simp
           go_at_call 32
           refine (ratMul_s ZP (GQ.add ZR) (.slice a0 n0 c0) (.slice a1 n1 c1) (.slice Ag1 ng1 cg1) (.slice Bg1 mg1 dg1) _ (HR.out.below S_67.out.below (ZP, .slice a0 n0 c0, .slice a1 n1 c1) (by simp)) (S_67.out.fr 0 0 rfl rfl rfl)).mono ?_
           rintro e wg2 ⟨vg2, ug2, rfl, ho, hb⟩
           obtain ⟨Ag2, ng2, cg2, rfl⟩ := (ho.at_ 0 rfl).shape3
           obtain ⟨Bg2, mg2, dg2, rfl⟩ := (ho.at_ 1 rfl).shape3
           have S_68 := Lib.hid (S_67.out.rows ho hb)
           clear S_67 ho hb
           refine hK.out _ _ (⟨S_68.out.cell 0 0 rfl rfl, S_68.out.cell 0 1 rfl rfl, S_68.out.cell 0 2 rfl rfl, S_68.out.cell 0 3 rfl rfl, S_68.out.cell 0 4 rfl rfl, S_68.out.cell 0 5 rfl rfl, S_68.out.cell 0 6 rfl rfl, S_68.out.cell 0 7 rfl rfl, S_68.out.cell 0 8 rfl rfl, S_68.out.cell 0 9 rfl rfl, (S_68.out.below.cell (p := ⟨g2, o2 + q * 6, none⟩) hg2).trans x_0, (S_68.out.below.cell (p := ⟨g2, o2 + q * 6 + 1, none⟩) hg2).trans x_1, (S_68.out.below.cell (p := ⟨g2, o2 + q * 6 + 2, none⟩) hg2).trans x_2, (S_68.out.below.cell (p := ⟨g2, o2 + q * 6 + 3, none⟩) hg2).trans x_3, (S_68.out.below.cell (p := ⟨g2, o2 + q * 6 + 4, none⟩) hg2).trans x_4, (S_68.out.below.cell (p := ⟨g2, o2 + q * 6 + 5, none⟩) hg2).trans x_5⟩) (fun hHeld13 => ?_)
           clear hK K
           try simp only [pm, s0, sS]
           refine wpAnyH_ready (rs := [14]) (by kernel_rfl) (by simp) ?_
           refine AllReadyH.cons (o := ⟨some 59, .call { callee := .value (.func 30), args := #[.tmp 46, .tmp 58], argTypes := #[32, 32] }, 32, "l08_star.go:87", #[⟨1, .data⟩, ⟨13, .data⟩, ⟨13, .chain⟩], none⟩) rfl (fun K hK => ?_) AllReadyH.nil
           go_simp
           go_at_call 30
           refine (ratAdd_s Y (ZP.mul (GQ.add ZR)) (.slice Ay ny cy) (.slice By my dy) (.slice Ag2 ng2 cg2) (.slice Bg2 mg2 dg2) _ (S_68.out.fr 3 0 rfl rfl rfl) (S_68.out.fr 0 0 rfl rfl rfl)).mono ?_
           rintro e wg3 ⟨vg3, ug3, rfl, ho, hb⟩
           obtain ⟨Ag3, ng3, cg3, rfl⟩ := (ho.at_ 0 rfl).shape3
           obtain ⟨Bg3, mg3, dg3, rfl⟩ := (ho.at_ 1 rfl).shape3
           have S_69 := Lib.hid (S_68.out.rows ho hb)
           clear S_68 ho hb
           refine hK.out _ _ (⟨S_69.out.cell 0 0 rfl rfl, S_69.out.cell 0 1 rfl rfl, S_69.out.cell 0 2 rfl rfl, S_69.out.cell 0 3 rfl rfl, S_69.out.cell 0 4 rfl rfl, S_69.out.cell 0 5 rfl rfl, S_69.out.cell 0 6 rfl rfl, S_69.out.cell 0 7 rfl rfl, S_69.out.cell 0 8 rfl rfl, S_69.out.cell 0 9 rfl rfl, (S_69.out.below.cell (p := ⟨g2, o2 + q * 6, none⟩) hg2).trans x_0, (S_69.out.below.cell (p := ⟨g2, o2 + q * 6 + 1, none⟩) hg2).trans x_1, (S_69.out.below.cell (p := ⟨g2, o2 + q * 6 + 2, none⟩) hg2).trans x_2, (S_69.out.below.cell (p := ⟨g2, o2 + q * 6 + 3, none⟩) hg2).trans x_3, (S_69.out.below.cell (p := ⟨g2, o2 + q * 6 + 4, none⟩) hg2).trans x_4, (S_69.out.below.cell (p := ⟨g2, o2 + q * 6 + 5, none⟩) hg2).trans x_5⟩) (fun hHeld14 => ?_)
           clear hK K
           try simp only [pm, s0, sS]
           refine tkH 15 ?_ ⟨some 60, .fieldAddr 50 (.tmp 6) 1, 0, "l08_star.go:87", #[⟨0, .phase⟩, ⟨1, .phase⟩, ⟨2, .phase⟩, ⟨3, .phase⟩, ⟨4, .phase⟩, ⟨5, .phase⟩, ⟨6, .phase⟩, ⟨7, .phase⟩, ⟨8, .phase⟩, ⟨9, .phase⟩, ⟨10, .phase⟩, ⟨11, .phase⟩, ⟨12, .phase⟩, ⟨13, .phase⟩, ⟨14, .phase⟩], none⟩ ?_ ?_
           rotate_left
           · intro w9 hSw; (try dsimp only at hSw); go_simp; try with_reducible rfl
           try simp only [pm, s0, sS]
           refine wpAnyH_ready (rs := [16]) (by kernel_rfl) (by simp) ?_
           refine AllReadyH.cons (o := ⟨none, .store 32 (.tmp 60) (.tmp 59), 0, "l08_star.go:87", #[⟨15, .data⟩, ⟨14, .data⟩, ⟨14, .chain⟩, ⟨0, .phase⟩, ⟨1, .phase⟩, ⟨2, .phase⟩, ⟨3, .phase⟩, ⟨4, .phase⟩, ⟨5, .phase⟩, ⟨6, .phase⟩, ⟨7, .phase⟩, ⟨8, .phase⟩, ⟨9, .phase⟩, ⟨10, .phase⟩, ⟨11, .phase⟩, ⟨12, .phase⟩, ⟨13, .phase⟩, ⟨14, .phase⟩], none⟩) rfl (fun K hK => ?_) AllReadyH.nil
           rw [if_pos (by rfl)]
           refine wp_store_mid _ _ _ rfl _ _ (List.toArray [.bool (Y.add (ZP.mul (GQ.add ZR))).s, (.slice Ag3 ng3 cg3), (.slice Bg3 mg3 dg3)]) rfl rfl (S_69.out.there9 1 3 (n := 3) rfl (by simp)) size_rat9 (all_oneCell_toArray (cs := [.bool (Y.add (ZP.mul (GQ.add ZR))).s, (.slice Ag3 ng3 cg3), (.slice Bg3 mg3 dg3)]) (List.all_eq_true.mp rfl)) ?_
           simp only [Act.put]
           have S_70 := Lib.hid (show St w (wg3.setCells w3.heap.size 3 [.bool (Y.add (ZP.mul (GQ.add ZR))).s, (.slice Ag3 ng3 cg3), (.slice Bg3 mg3 dg3)]) [(wr.heap.size, [.int .i64 (q : Int), .bool ZP.s, (.slice a0 n0 c0), (.slice a1 n1 c1), .bool ZQ.s, (.slice a2 n2 c2), (.slice a3 n3 c3), .bool ZR.s, (.slice a4 n4 c4), (.slice a5 n5 c5)]), (w3.heap.size, [.bool (X.add (ZP.mul (GP.add ZQ))).s, (.slice Af3 nf3 cf3), (.slice Bf3 mf3 df3), .bool (Y.add (ZP.mul (GQ.add ZR))).s, (.slice Ag3 ng3 cg3), (.slice Bg3 mg3 dg3)]), (w.heap.size + 1, [.bool false, .slice none 0 0, .slice none 0 0, .bool false, .slice none 0 0, .slice none 0 0]), (w.heap.size, [.int .i64 N, .bool T.s, t0, t1, (.slice (some ⟨g1, o1, none⟩) n c)])] [[((.slice Ag3 ng3 cg3), ints (Y.add (ZP.mul (GQ.add ZR))).xs), ((.slice Bg3 mg3 dg3), ints (Y.add (ZP.mul (GQ.add ZR))).ys)], [((.slice Ag2 ng2 cg2), ints (ZP.mul (GQ.add ZR)).xs), ((.slice Bg2 mg2 dg2), ints (ZP.mul (GQ.add ZR)).ys)], [((.slice Ag1 ng1 cg1), ints (GQ.add ZR).xs), ((.slice Bg1 mg1 dg1), ints (GQ.add ZR).ys)], [((.slice Af3 nf3 cf3), ints (X.add (ZP.mul (GP.add ZQ))).xs), ((.slice Bf3 mf3 df3), ints (X.add (ZP.mul (GP.add ZQ))).ys)], [((.slice Ay ny cy), ints Y.xs), ((.slice By my dy), ints Y.ys)], [((.slice Ax nx cx), ints X.xs), ((.slice Bx mx dx), ints X.ys)]] from S_69.out.seg9 (k := 1) (X := [.bool (X.add (ZP.mul (GP.add ZQ))).s, (.slice Af3 nf3 cf3), (.slice Bf3 mf3 df3)]) (old := [.bool Y.s, (.slice Ay ny cy), (.slice By my dy)]) (us := [.bool (Y.add (ZP.mul (GQ.add ZR))).s, (.slice Ag3 ng3 cg3), (.slice Bg3 mg3 dg3)]) (rest := []) (m := 3) rfl rfl rfl)
           clear S_69
           refine hK.out _ _ (⟨S_70.out.cell 0 0 rfl rfl, S_70.out.cell 0 1 rfl rfl, S_70.out.cell 0 2 rfl rfl, S_70.out.cell 0 3 rfl rfl, S_70.out.cell 0 4 rfl rfl, S_70.out.cell 0 5 rfl rfl, S_70.out.cell 0 6 rfl rfl, S_70.out.cell 0 7 rfl rfl, S_70.out.cell 0 8 rfl rfl, S_70.out.cell 0 9 rfl rfl, (S_70.out.below.cell (p := ⟨g2, o2 + q * 6, none⟩) hg2).trans x_0, (S_70.out.below.cell (p := ⟨g2, o2 + q * 6 + 1, none⟩) hg2).trans x_1, (S_70.out.below.cell (p := ⟨g2, o2 + q * 6 + 2, none⟩) hg2).trans x_2, (S_70.out.below.cell (p := ⟨g2, o2 + q * 6 + 3, none⟩) hg2).trans x_3, (S_70.out.below.cell (p := ⟨g2, o2 + q * 6 + 4, none⟩) hg2).trans x_4, (S_70.out.below.cell (p := ⟨g2, o2 + q * 6 + 5, none⟩) hg2).trans x_5⟩) (fun hHeld16 => ?_)
           clear hK K
           try simp only [pm, s0, sS]
           refine wpAnyH_done (by kernel_rfl) ?_ _
           refine NoPanic.normal ?_
           go_wp2
           have E1 : X.add (ZP.mul (GP.add ZQ)) = apSum paX ptX ((dats zs).take (k + 1)) (dats ps) := by rw [apSum_step HZ.out, HX.out]; show _ = X.add (ZP.mul ((ptX ((dats ps).getD ((q : Int).toNat) ([], []))).add ZQ)); rw [HG.out]; rfl
           have E2 : Y.add (ZP.mul (GQ.add ZR)) = apSum paY ptY ((dats zs).take (k + 1)) (dats ps) := by rw [apSum_step HZ.out, HY.out]; show _ = Y.add (ZP.mul ((ptY ((dats ps).getD ((q : Int).toNat) ([], []))).add ZR)); rw [HG.out]; rfl
           exact ⟨⟨k + 1, _, _, _, _, _, _, by omega, by first | rfl | go_num, HI2.out, E1.symm, E2.symm, ((((S_70.out.drop 5).drop 4).drop 2).drop 1).dropBox 0⟩, by simp [intOf]; omega⟩
         refine AllReadyH.cons (o := ⟨some 57, .call { callee := .value (.func 30), args := #[.tmp 54, .tmp 56], argTypes := #[32, 32] }, 32, "l08_star.go:87", #[⟨9, .data⟩, ⟨11, .data⟩], none⟩) rfl (fun K hK => ?_) ?_
         · go_simp
           go_at_call 30
           refine (ratAdd_s GQ ZR (.slice e2 m2 j2) (.slice e3 m3 j3) (.slice a4 n4 c4) (.slice a5 n5 c5) _ (HRY.out.below S_66.out.drew.below (GQ, .slice e2 m2 j2, .slice e3 m3 j3) (by simp)) (HR.out.below S_66.out.drew.below (ZR, .slice a4 n4 c4, .slice a5 n5 c5) (by simp))).mono ?_
           rintro e wg1 ⟨vg1, ug1, rfl, ho, hb⟩
           obtain ⟨Ag1, ng1, cg1, rfl⟩ := (ho.at_ 0 rfl).shape3
           obtain ⟨Bg1, mg1, dg1, rfl⟩ := (ho.at_ 1 rfl).shape3
           have S_67 := Lib.hid (S_66.out.drew.rows ho hb)
           clear S_66 ho hb
           refine hK.out _ _ (⟨S_67.out.cell 0 0 rfl rfl, S_67.out.cell 0 1 rfl rfl, S_67.out.cell 0 2 rfl rfl, S_67.out.cell 0 3 rfl rfl, S_67.out.cell 0 4 rfl rfl, S_67.out.cell 0 5 rfl rfl, S_67.out.cell 0 6 rfl rfl, S_67.out.cell 0 7 rfl rfl, S_67.out.cell 0 8 rfl rfl, S_67.out.cell 0 9 rfl rfl, (S_67.out.below.cell (p := ⟨g2, o2 + q * 6, none⟩) hg2).trans x_0, (S_67.out.below.cell (p := ⟨g2, o2 + q * 6 + 1, none⟩) hg2).trans x_1, (S_67.out.below.cell (p := ⟨g2, o2 + q * 6 + 2, none⟩) hg2).trans x_2, (S_67.out.below.cell (p := ⟨g2, o2 + q * 6 + 3, none⟩) hg2).trans x_3, (S_67.out.below.cell (p := ⟨g2, o2 + q * 6 + 4, none⟩) hg2).trans x_4, (S_67.out.below.cell (p := ⟨g2, o2 + q * 6 + 5, none⟩) hg2).trans x_5⟩) (fun hHeld12 => ?_)
           clear hK K
           try simp only [pm, s0, sS]
           refine wpAnyH_ready (rs := [1, 13]) (by kernel_rfl) (by simp) ?_
           refine AllReadyH.cons (o := ⟨some 46, .load 32 (.tmp 45), 32, "l08_star.go:87", #[⟨0, .data⟩], none⟩) rfl (fun K hK => ?_) ?_
           · have hl_0 := S_67.out.cell 1 3 rfl rfl
             have hl_1 := S_67.out.cell 1 4 rfl rfl
             have hl_2 := S_67.out.cell 1 5 rfl rfl
             go_simp
             clear hl_0 hl_1 hl_2
             refine hK.out _ _ (⟨S_67.out.cell 0 0 rfl rfl, S_67.out.cell 0 1 rfl rfl, S_67.out.cell 0 2 rfl rfl, S_67.out.cell 0 3 rfl rfl, S_67.out.cell 0 4 rfl rfl, S_67.out.cell 0 5 rfl rfl, S_67.out.cell 0 6 rfl rfl, S_67.out.cell 0 7 rfl rfl, S_67.out.cell 0 8 rfl rfl, S_67.out.cell 0 9 rfl rfl, (S_67.out.below.cell (p := ⟨g2, o2 + q * 6, none⟩) hg2).trans x_0, (S_67.out.below.cell (p := ⟨g2, o2 + q * 6 + 1, none⟩) hg2).trans x_1, (S_67.out.below.cell (p := ⟨g2, o2 + q * 6 + 2, none⟩) hg2).trans x_2, (S_67.out.below.cell (p := ⟨g2, o2 + q * 6 + 3, none⟩) hg2).trans x_3, (S_67.out.below.cell (p := ⟨g2, o2 + q * 6 + 4, none⟩) hg2).trans x_4, (S_67.out.below.cell (p := ⟨g2, o2 + q * 6 + 5, none⟩) hg2).trans x_5⟩) (fun hHeld1 => ?_)
             clear hK K
             try simp only [pm, s0, sS]
             refine wpAnyH_ready (rs := [13]) (by kernel_rfl) (by simp) ?_
             refine AllReadyH.cons (o := ⟨some 58, .call { callee := .value (.func 32), args := #[.tmp 48, .tmp 57], argTypes := #[32, 32] }, 32, "l08_star.go:87", #[⟨3, .data⟩, ⟨12, .data⟩, ⟨12, .chain⟩], none⟩) rfl (fun K hK => ?_) AllReadyH.nil
             go_simp
             go_at_call 32
             refine (ratMul_s ZP (GQ.add ZR) (.slice a0 n0 c0) (.slice a1 n1 c1) (.slice Ag1 ng1 cg1) (.slice Bg1 mg1 dg1) _ (HR.out.below S_67.out.below (ZP, .slice a0 n0 c0, .slice a1 n1 c1) (by simp)) (S_67.out.fr 0 0 rfl rfl rfl)).mono ?_
             rintro e wg2 ⟨vg2, ug2, rfl, ho, hb⟩
             obtain ⟨Ag2, ng2, cg2, rfl⟩ := (ho.at_ 0 rfl).shape3
             obtain ⟨Bg2, mg2, dg2, rfl⟩ := (ho.at_ 1 rfl).shape3
             have S_68 := Lib.hid (S_67.out.rows ho hb)
             clear S_67 ho hb
             refine hK.out _ _ (⟨S_68.out.cell 0 0 rfl rfl, S_68.out.cell 0 1 rfl rfl, S_68.out.cell 0 2 rfl rfl, S_68.out.cell 0 3 rfl rfl, S_68.out.cell 0 4 rfl rfl, S_68.out.cell 0 5 rfl rfl, S_68.out.cell 0 6 rfl rfl, S_68.out.cell 0 7 rfl rfl, S_68.out.cell 0 8 rfl rfl, S_68.out.cell 0 9 rfl rfl, (S_68.out.below.cell (p := ⟨g2, o2 + q * 6, none⟩) hg2).trans x_0, (S_68.out.below.cell (p := ⟨g2, o2 + q * 6 + 1, none⟩) hg2).trans x_1, (S_68.out.below.cell (p := ⟨g2, o2 + q * 6 + 2, none⟩) hg2).trans x_2, (S_68.out.below.cell (p := ⟨g2, o2 + q * 6 + 3, none⟩) hg2).trans x_3, (S_68.out.below.cell (p := ⟨g2, o2 + q * 6 + 4, none⟩) hg2).trans x_4, (S_68.out.below.cell (p := ⟨g2, o2 + q * 6 + 5, none⟩) hg2).trans x_5⟩) (fun hHeld13 => ?_)
             clear hK K
             try simp only [pm, s0, sS]
             refine wpAnyH_ready (rs := [14]) (by kernel_rfl) (by simp) ?_
             refine AllReadyH.cons (o := ⟨some 59, .call { callee := .value (.func 30), args := #[.tmp 46, .tmp 58], argTypes := #[32, 32] }, 32, "l08_star.go:87", #[⟨1, .data⟩, ⟨13, .data⟩, ⟨13, .chain⟩], none⟩) rfl (fun K hK => ?_) AllReadyH.nil
             go_simp
             go_at_call 30
             refine (ratAdd_s Y (ZP.mul (GQ.add ZR)) (.slice Ay ny cy) (.slice By my dy) (.slice Ag2 ng2 cg2) (.slice Bg2 mg2 dg2) _ (S_68.out.fr 3 0 rfl rfl rfl) (S_68.out.fr 0 0 rfl rfl rfl)).mono ?_
             rintro e wg3 ⟨vg3, ug3, rfl, ho, hb⟩
             obtain ⟨Ag3, ng3, cg3, rfl⟩ := (ho.at_ 0 rfl).shape3
             obtain ⟨Bg3, mg3, dg3, rfl⟩ := (ho.at_ 1 rfl).shape3
             have S_69 := Lib.hid (S_68.out.rows ho hb)
             clear S_68 ho hb
             refine hK.out _ _ (⟨S_69.out.cell 0 0 rfl rfl, S_69.out.cell 0 1 rfl rfl, S_69.out.cell 0 2 rfl rfl, S_69.out.cell 0 3 rfl rfl, S_69.out.cell 0 4 rfl rfl, S_69.out.cell 0 5 rfl rfl, S_69.out.cell 0 6 rfl rfl, S_69.out.cell 0 7 rfl rfl, S_69.out.cell 0 8 rfl rfl, S_69.out.cell 0 9 rfl rfl, (S_69.out.below.cell (p := ⟨g2, o2 + q * 6, none⟩) hg2).trans x_0, (S_69.out.below.cell (p := ⟨g2, o2 + q * 6 + 1, none⟩) hg2).trans x_1, (S_69.out.below.cell (p := ⟨g2, o2 + q * 6 + 2, none⟩) hg2).trans x_2, (S_69.out.below.cell (p := ⟨g2, o2 + q * 6 + 3, none⟩) hg2).trans x_3, (S_69.out.below.cell (p := ⟨g2, o2 + q * 6 + 4, none⟩) hg2).trans x_4, (S_69.out.below.cell (p := ⟨g2, o2 + q * 6 + 5, none⟩) hg2).trans x_5⟩) (fun hHeld14 => ?_)
             clear hK K
             try simp only [pm, s0, sS]
             refine tkH 15 ?_ ⟨some 60, .fieldAddr 50 (.tmp 6) 1, 0, "l08_star.go:87", #[⟨0, .phase⟩, ⟨1, .phase⟩, ⟨2, .phase⟩, ⟨3, .phase⟩, ⟨4, .phase⟩, ⟨5, .phase⟩, ⟨6, .phase⟩, ⟨7, .phase⟩, ⟨8, .phase⟩, ⟨9, .phase⟩, ⟨10, .phase⟩, ⟨11, .phase⟩, ⟨12, .phase⟩, ⟨13, .phase⟩, ⟨14, .phase⟩], none⟩ ?_ ?_
             rotate_left
             · intro w9 hSw; (try dsimp only at hSw); go_simp; try with_reducible rfl
             try simp only [pm, s0, sS]
             refine wpAnyH_ready (rs := [16]) (by kernel_rfl) (by simp) ?_
             refine AllReadyH.cons (o := ⟨none, .store 32 (.tmp 60) (.tmp 59), 0, "l08_star.go:87", #[⟨15, .data⟩, ⟨14, .data⟩, ⟨14, .chain⟩, ⟨0, .phase⟩, ⟨1, .phase⟩, ⟨2, .phase⟩, ⟨3, .phase⟩, ⟨4, .phase⟩, ⟨5, .phase⟩, ⟨6, .phase⟩, ⟨7, .phase⟩, ⟨8, .phase⟩, ⟨9, .phase⟩, ⟨10, .phase⟩, ⟨11, .phase⟩, ⟨12, .phase⟩, ⟨13, .phase⟩, ⟨14, .phase⟩], none⟩) rfl (fun K hK => ?_) AllReadyH.nil
             rw [if_pos (by rfl)]
             refine wp_store_mid _ _ _ rfl _ _ (List.toArray [.bool (Y.add (ZP.mul (GQ.add ZR))).s, (.slice Ag3 ng3 cg3), (.slice Bg3 mg3 dg3)]) rfl rfl (S_69.out.there9 1 3 (n := 3) rfl (by simp)) size_rat9 (all_oneCell_toArray (cs := [.bool (Y.add (ZP.mul (GQ.add ZR))).s, (.slice Ag3 ng3 cg3), (.slice Bg3 mg3 dg3)]) (List.all_eq_true.mp rfl)) ?_
             simp only [Act.put]
             have S_70 := Lib.hid (show St w (wg3.setCells w3.heap.size 3 [.bool (Y.add (ZP.mul (GQ.add ZR))).s, (.slice Ag3 ng3 cg3), (.slice Bg3 mg3 dg3)]) [(wr.heap.size, [.int .i64 (q : Int), .bool ZP.s, (.slice a0 n0 c0), (.slice a1 n1 c1), .bool ZQ.s, (.slice a2 n2 c2), (.slice a3 n3 c3), .bool ZR.s, (.slice a4 n4 c4), (.slice a5 n5 c5)]), (w3.heap.size, [.bool (X.add (ZP.mul (GP.add ZQ))).s, (.slice Af3 nf3 cf3), (.slice Bf3 mf3 df3), .bool (Y.add (ZP.mul (GQ.add ZR))).s, (.slice Ag3 ng3 cg3), (.slice Bg3 mg3 dg3)]), (w.heap.size + 1, [.bool false, .slice none 0 0, .slice none 0 0, .bool false, .slice none 0 0, .slice none 0 0]), (w.heap.size, [.int .i64 N, .bool T.s, t0, t1, (.slice (some ⟨g1, o1, none⟩) n c)])] [[((.slice Ag3 ng3 cg3), ints (Y.add (ZP.mul (GQ.add ZR))).xs), ((.slice Bg3 mg3 dg3), ints (Y.add (ZP.mul (GQ.add ZR))).ys)], [((.slice Ag2 ng2 cg2), ints (ZP.mul (GQ.add ZR)).xs), ((.slice Bg2 mg2 dg2), ints (ZP.mul (GQ.add ZR)).ys)], [((.slice Ag1 ng1 cg1), ints (GQ.add ZR).xs), ((.slice Bg1 mg1 dg1), ints (GQ.add ZR).ys)], [((.slice Af3 nf3 cf3), ints (X.add (ZP.mul (GP.add ZQ))).xs), ((.slice Bf3 mf3 df3), ints (X.add (ZP.mul (GP.add ZQ))).ys)], [((.slice Ay ny cy), ints Y.xs), ((.slice By my dy), ints Y.ys)], [((.slice Ax nx cx), ints X.xs), ((.slice Bx mx dx), ints X.ys)]] from S_69.out.seg9 (k := 1) (X := [.bool (X.add (ZP.mul (GP.add ZQ))).s, (.slice Af3 nf3 cf3), (.slice Bf3 mf3 df3)]) (old := [.bool Y.s, (.slice Ay ny cy), (.slice By my dy)]) (us := [.bool (Y.add (ZP.mul (GQ.add ZR))).s, (.slice Ag3 ng3 cg3), (.slice Bg3 mg3 dg3)]) (rest := []) (m := 3) rfl rfl rfl)
             clear S_69
             refine hK.out _ _ (⟨S_70.out.cell 0 0 rfl rfl, S_70.out.cell 0 1 rfl rfl, S_70.out.cell 0 2 rfl rfl, S_70.out.cell 0 3 rfl rfl, S_70.out.cell 0 4 rfl rfl, S_70.out.cell 0 5 rfl rfl, S_70.out.cell 0 6 rfl rfl, S_70.out.cell 0 7 rfl rfl, S_70.out.cell 0 8 rfl rfl, S_70.out.cell 0 9 rfl rfl, (S_70.out.below.cell (p := ⟨g2, o2 + q * 6, none⟩) hg2).trans x_0, (S_70.out.below.cell (p := ⟨g2, o2 + q * 6 + 1, none⟩) hg2).trans x_1, (S_70.out.below.cell (p := ⟨g2, o2 + q * 6 + 2, none⟩) hg2).trans x_2, (S_70.out.below.cell (p := ⟨g2, o2 + q * 6 + 3, none⟩) hg2).trans x_3, (S_70.out.below.cell (p := ⟨g2, o2 + q * 6 + 4, none⟩) hg2).trans x_4, (S_70.out.below.cell (p := ⟨g2, o2 + q * 6 + 5, none⟩) hg2).trans x_5⟩) (fun hHeld16 => ?_)
             clear hK K
             try simp only [pm, s0, sS]
             refine wpAnyH_done (by kernel_rfl) ?_ _
             refine NoPanic.normal ?_
             go_wp2
             have E1 : X.add (ZP.mul (GP.add ZQ)) = apSum paX ptX ((dats zs).take (k + 1)) (dats ps) := by rw [apSum_step HZ.out, HX.out]; show _ = X.add (ZP.mul ((ptX ((dats ps).getD ((q : Int).toNat) ([], []))).add ZQ)); rw [HG.out]; rfl
             have E2 : Y.add (ZP.mul (GQ.add ZR)) = apSum paY ptY ((dats zs).take (k + 1)) (dats ps) := by rw [apSum_step HZ.out, HY.out]; show _ = Y.add (ZP.mul ((ptY ((dats ps).getD ((q : Int).toNat) ([], []))).add ZR)); rw [HG.out]; rfl
             exact ⟨⟨k + 1, _, _, _, _, _, _, by omega, by first | rfl | go_num, HI2.out, E1.symm, E2.symm, ((((S_70.out.drop 5).drop 4).drop 2).drop 1).dropBox 0⟩, by simp [intOf]; omega⟩
           refine AllReadyH.cons (o := ⟨some 58, .call { callee := .value (.func 32), args := #[.tmp 48, .tmp 57], argTypes := #[32, 32] }, 32, "l08_star.go:87", #[⟨3, .data⟩, ⟨12, .data⟩, ⟨12, .chain⟩], none⟩) rfl (fun K hK => ?_) ?_
           · go_simp
             go_at_call 32
             refine (ratMul_s ZP (GQ.add ZR) (.slice a0 n0 c0) (.slice a1 n1 c1) (.slice Ag1 ng1 cg1) (.slice Bg1 mg1 dg1) _ (HR.out.below S_67.out.below (ZP, .slice a0 n0 c0, .slice a1 n1 c1) (by simp)) (S_67.out.fr 0 0 rfl rfl rfl)).mono ?_
             rintro e wg2 ⟨vg2, ug2, rfl, ho, hb⟩
             obtain ⟨Ag2, ng2, cg2, rfl⟩ := (ho.at_ 0 rfl).shape3
             obtain ⟨Bg2, mg2, dg2, rfl⟩ := (ho.at_ 1 rfl).shape3
             have S_68 := Lib.hid (S_67.out.rows ho hb)
             clear S_67 ho hb
             refine hK.out _ _ (⟨S_68.out.cell 0 0 rfl rfl, S_68.out.cell 0 1 rfl rfl, S_68.out.cell 0 2 rfl rfl, S_68.out.cell 0 3 rfl rfl, S_68.out.cell 0 4 rfl rfl, S_68.out.cell 0 5 rfl rfl, S_68.out.cell 0 6 rfl rfl, S_68.out.cell 0 7 rfl rfl, S_68.out.cell 0 8 rfl rfl, S_68.out.cell 0 9 rfl rfl, (S_68.out.below.cell (p := ⟨g2, o2 + q * 6, none⟩) hg2).trans x_0, (S_68.out.below.cell (p := ⟨g2, o2 + q * 6 + 1, none⟩) hg2).trans x_1, (S_68.out.below.cell (p := ⟨g2, o2 + q * 6 + 2, none⟩) hg2).trans x_2, (S_68.out.below.cell (p := ⟨g2, o2 + q * 6 + 3, none⟩) hg2).trans x_3, (S_68.out.below.cell (p := ⟨g2, o2 + q * 6 + 4, none⟩) hg2).trans x_4, (S_68.out.below.cell (p := ⟨g2, o2 + q * 6 + 5, none⟩) hg2).trans x_5⟩) (fun hHeld13 => ?_)
             clear hK K
             try simp only [pm, s0, sS]
             refine wpAnyH_ready (rs := [1]) (by kernel_rfl) (by simp) ?_
             refine AllReadyH.cons (o := ⟨some 46, .load 32 (.tmp 45), 32, "l08_star.go:87", #[⟨0, .data⟩], none⟩) rfl (fun K hK => ?_) AllReadyH.nil
             have hl_0 := S_68.out.cell 1 3 rfl rfl
             have hl_1 := S_68.out.cell 1 4 rfl rfl
             have hl_2 := S_68.out.cell 1 5 rfl rfl
             go_simp
             clear hl_0 hl_1 hl_2
             refine hK.out _ _ (⟨S_68.out.cell 0 0 rfl rfl, S_68.out.cell 0 1 rfl rfl, S_68.out.cell 0 2 rfl rfl, S_68.out.cell 0 3 rfl rfl, S_68.out.cell 0 4 rfl rfl, S_68.out.cell 0 5 rfl rfl, S_68.out.cell 0 6 rfl rfl, S_68.out.cell 0 7 rfl rfl, S_68.out.cell 0 8 rfl rfl, S_68.out.cell 0 9 rfl rfl, (S_68.out.below.cell (p := ⟨g2, o2 + q * 6, none⟩) hg2).trans x_0, (S_68.out.below.cell (p := ⟨g2, o2 + q * 6 + 1, none⟩) hg2).trans x_1, (S_68.out.below.cell (p := ⟨g2, o2 + q * 6 + 2, none⟩) hg2).trans x_2, (S_68.out.below.cell (p := ⟨g2, o2 + q * 6 + 3, none⟩) hg2).trans x_3, (S_68.out.below.cell (p := ⟨g2, o2 + q * 6 + 4, none⟩) hg2).trans x_4, (S_68.out.below.cell (p := ⟨g2, o2 + q * 6 + 5, none⟩) hg2).trans x_5⟩) (fun hHeld1 => ?_)
             clear hK K
             try simp only [pm, s0, sS]
             refine wpAnyH_ready (rs := [14]) (by kernel_rfl) (by simp) ?_
             refine AllReadyH.cons (o := ⟨some 59, .call { callee := .value (.func 30), args := #[.tmp 46, .tmp 58], argTypes := #[32, 32] }, 32, "l08_star.go:87", #[⟨1, .data⟩, ⟨13, .data⟩, ⟨13, .chain⟩], none⟩) rfl (fun K hK => ?_) AllReadyH.nil
             go_simp
             go_at_call 30
             refine (ratAdd_s Y (ZP.mul (GQ.add ZR)) (.slice Ay ny cy) (.slice By my dy) (.slice Ag2 ng2 cg2) (.slice Bg2 mg2 dg2) _ (S_68.out.fr 3 0 rfl rfl rfl) (S_68.out.fr 0 0 rfl rfl rfl)).mono ?_
             rintro e wg3 ⟨vg3, ug3, rfl, ho, hb⟩
             obtain ⟨Ag3, ng3, cg3, rfl⟩ := (ho.at_ 0 rfl).shape3
             obtain ⟨Bg3, mg3, dg3, rfl⟩ := (ho.at_ 1 rfl).shape3
             have S_69 := Lib.hid (S_68.out.rows ho hb)
             clear S_68 ho hb
             refine hK.out _ _ (⟨S_69.out.cell 0 0 rfl rfl, S_69.out.cell 0 1 rfl rfl, S_69.out.cell 0 2 rfl rfl, S_69.out.cell 0 3 rfl rfl, S_69.out.cell 0 4 rfl rfl, S_69.out.cell 0 5 rfl rfl, S_69.out.cell 0 6 rfl rfl, S_69.out.cell 0 7 rfl rfl, S_69.out.cell 0 8 rfl rfl, S_69.out.cell 0 9 rfl rfl, (S_69.out.below.cell (p := ⟨g2, o2 + q * 6, none⟩) hg2).trans x_0, (S_69.out.below.cell (p := ⟨g2, o2 + q * 6 + 1, none⟩) hg2).trans x_1, (S_69.out.below.cell (p := ⟨g2, o2 + q * 6 + 2, none⟩) hg2).trans x_2, (S_69.out.below.cell (p := ⟨g2, o2 + q * 6 + 3, none⟩) hg2).trans x_3, (S_69.out.below.cell (p := ⟨g2, o2 + q * 6 + 4, none⟩) hg2).trans x_4, (S_69.out.below.cell (p := ⟨g2, o2 + q * 6 + 5, none⟩) hg2).trans x_5⟩) (fun hHeld14 => ?_)
             clear hK K
             try simp only [pm, s0, sS]
             refine tkH 15 ?_ ⟨some 60, .fieldAddr 50 (.tmp 6) 1, 0, "l08_star.go:87", #[⟨0, .phase⟩, ⟨1, .phase⟩, ⟨2, .phase⟩, ⟨3, .phase⟩, ⟨4, .phase⟩, ⟨5, .phase⟩, ⟨6, .phase⟩, ⟨7, .phase⟩, ⟨8, .phase⟩, ⟨9, .phase⟩, ⟨10, .phase⟩, ⟨11, .phase⟩, ⟨12, .phase⟩, ⟨13, .phase⟩, ⟨14, .phase⟩], none⟩ ?_ ?_
             rotate_left
             · intro w9 hSw; (try dsimp only at hSw); go_simp; try with_reducible rfl
             try simp only [pm, s0, sS]
             refine wpAnyH_ready (rs := [16]) (by kernel_rfl) (by simp) ?_
             refine AllReadyH.cons (o := ⟨none, .store 32 (.tmp 60) (.tmp 59), 0, "l08_star.go:87", #[⟨15, .data⟩, ⟨14, .data⟩, ⟨14, .chain⟩, ⟨0, .phase⟩, ⟨1, .phase⟩, ⟨2, .phase⟩, ⟨3, .phase⟩, ⟨4, .phase⟩, ⟨5, .phase⟩, ⟨6, .phase⟩, ⟨7, .phase⟩, ⟨8, .phase⟩, ⟨9, .phase⟩, ⟨10, .phase⟩, ⟨11, .phase⟩, ⟨12, .phase⟩, ⟨13, .phase⟩, ⟨14, .phase⟩], none⟩) rfl (fun K hK => ?_) AllReadyH.nil
             rw [if_pos (by rfl)]
             refine wp_store_mid _ _ _ rfl _ _ (List.toArray [.bool (Y.add (ZP.mul (GQ.add ZR))).s, (.slice Ag3 ng3 cg3), (.slice Bg3 mg3 dg3)]) rfl rfl (S_69.out.there9 1 3 (n := 3) rfl (by simp)) size_rat9 (all_oneCell_toArray (cs := [.bool (Y.add (ZP.mul (GQ.add ZR))).s, (.slice Ag3 ng3 cg3), (.slice Bg3 mg3 dg3)]) (List.all_eq_true.mp rfl)) ?_
             simp only [Act.put]
             have S_70 := Lib.hid (show St w (wg3.setCells w3.heap.size 3 [.bool (Y.add (ZP.mul (GQ.add ZR))).s, (.slice Ag3 ng3 cg3), (.slice Bg3 mg3 dg3)]) [(wr.heap.size, [.int .i64 (q : Int), .bool ZP.s, (.slice a0 n0 c0), (.slice a1 n1 c1), .bool ZQ.s, (.slice a2 n2 c2), (.slice a3 n3 c3), .bool ZR.s, (.slice a4 n4 c4), (.slice a5 n5 c5)]), (w3.heap.size, [.bool (X.add (ZP.mul (GP.add ZQ))).s, (.slice Af3 nf3 cf3), (.slice Bf3 mf3 df3), .bool (Y.add (ZP.mul (GQ.add ZR))).s, (.slice Ag3 ng3 cg3), (.slice Bg3 mg3 dg3)]), (w.heap.size + 1, [.bool false, .slice none 0 0, .slice none 0 0, .bool false, .slice none 0 0, .slice none 0 0]), (w.heap.size, [.int .i64 N, .bool T.s, t0, t1, (.slice (some ⟨g1, o1, none⟩) n c)])] [[((.slice Ag3 ng3 cg3), ints (Y.add (ZP.mul (GQ.add ZR))).xs), ((.slice Bg3 mg3 dg3), ints (Y.add (ZP.mul (GQ.add ZR))).ys)], [((.slice Ag2 ng2 cg2), ints (ZP.mul (GQ.add ZR)).xs), ((.slice Bg2 mg2 dg2), ints (ZP.mul (GQ.add ZR)).ys)], [((.slice Ag1 ng1 cg1), ints (GQ.add ZR).xs), ((.slice Bg1 mg1 dg1), ints (GQ.add ZR).ys)], [((.slice Af3 nf3 cf3), ints (X.add (ZP.mul (GP.add ZQ))).xs), ((.slice Bf3 mf3 df3), ints (X.add (ZP.mul (GP.add ZQ))).ys)], [((.slice Ay ny cy), ints Y.xs), ((.slice By my dy), ints Y.ys)], [((.slice Ax nx cx), ints X.xs), ((.slice Bx mx dx), ints X.ys)]] from S_69.out.seg9 (k := 1) (X := [.bool (X.add (ZP.mul (GP.add ZQ))).s, (.slice Af3 nf3 cf3), (.slice Bf3 mf3 df3)]) (old := [.bool Y.s, (.slice Ay ny cy), (.slice By my dy)]) (us := [.bool (Y.add (ZP.mul (GQ.add ZR))).s, (.slice Ag3 ng3 cg3), (.slice Bg3 mg3 dg3)]) (rest := []) (m := 3) rfl rfl rfl)
             clear S_69
             refine hK.out _ _ (⟨S_70.out.cell 0 0 rfl rfl, S_70.out.cell 0 1 rfl rfl, S_70.out.cell 0 2 rfl rfl, S_70.out.cell 0 3 rfl rfl, S_70.out.cell 0 4 rfl rfl, S_70.out.cell 0 5 rfl rfl, S_70.out.cell 0 6 rfl rfl, S_70.out.cell 0 7 rfl rfl, S_70.out.cell 0 8 rfl rfl, S_70.out.cell 0 9 rfl rfl, (S_70.out.below.cell (p := ⟨g2, o2 + q * 6, none⟩) hg2).trans x_0, (S_70.out.below.cell (p := ⟨g2, o2 + q * 6 + 1, none⟩) hg2).trans x_1, (S_70.out.below.cell (p := ⟨g2, o2 + q * 6 + 2, none⟩) hg2).trans x_2, (S_70.out.below.cell (p := ⟨g2, o2 + q * 6 + 3, none⟩) hg2).trans x_3, (S_70.out.below.cell (p := ⟨g2, o2 + q * 6 + 4, none⟩) hg2).trans x_4, (S_70.out.below.cell (p := ⟨g2, o2 + q * 6 + 5, none⟩) hg2).trans x_5⟩) (fun hHeld16 => ?_)
             clear hK K
             try simp only [pm, s0, sS]
             refine wpAnyH_done (by kernel_rfl) ?_ _
             refine NoPanic.normal ?_
             go_wp2
             have E1 : X.add (ZP.mul (GP.add ZQ)) = apSum paX ptX ((dats zs).take (k + 1)) (dats ps) := by rw [apSum_step HZ.out, HX.out]; show _ = X.add (ZP.mul ((ptX ((dats ps).getD ((q : Int).toNat) ([], []))).add ZQ)); rw [HG.out]; rfl
             have E2 : Y.add (ZP.mul (GQ.add ZR)) = apSum paY ptY ((dats zs).take (k + 1)) (dats ps) := by rw [apSum_step HZ.out, HY.out]; show _ = Y.add (ZP.mul ((ptY ((dats ps).getD ((q : Int).toNat) ([], []))).add ZR)); rw [HG.out]; rfl
             exact ⟨⟨k + 1, _, _, _, _, _, _, by omega, by first | rfl | go_num, HI2.out, E1.symm, E2.symm, ((((S_70.out.drop 5).drop 4).drop 2).drop 1).dropBox 0⟩, by simp [intOf]; omega⟩
           exact AllReadyH.nil
         exact AllReadyH.nil
       · have HNO := Lib.hid (show ok = false by rw [← HOK.out, apIn_bad HZ.out (show ¬ ((q : Int) < (m : Int)) from h1)]; rfl)
         have h1b : (m : Int) ≤ (q : Int) := by omega
         clear hk_c_0_6 hk_c_1_6 hk_c_2_6 hk_c_3_6 hk_c_4_6 hk_p_0_6 hk_p_1_6 hk_p_2_6 hk_p_3_6 hk_p_4_6 hk_p_5_6 hk_p_6_6 hk_p_7_6 hk_p_8_6 hk_p_9_6 hk_out_0_6 hk_out_1_6 hk_out_2_6 hk_out_3_6 hk_out_4_6 hk_out_5_6 hk_ret_0_6 hk_ret_1_6 hk_ret_2_6 hk_ret_3_6 hk_ret_4_6 hk_ret_5_6
         have hk_ret_0_66 := S_6.out.cell 2 0 rfl rfl
         have hk_ret_0_66f := S_6.out.froz 2 0 rfl rfl
         have hk_ret_1_66 := S_6.out.cell 2 1 rfl rfl
         have hk_ret_1_66f := S_6.out.froz 2 1 rfl rfl
         have hk_ret_2_66 := S_6.out.cell 2 2 rfl rfl
         have hk_ret_2_66f := S_6.out.froz 2 2 rfl rfl
         have hk_ret_3_66 := S_6.out.cell 2 3 rfl rfl
         have hk_ret_3_66f := S_6.out.froz 2 3 rfl rfl
         have hk_ret_4_66 := S_6.out.cell 2 4 rfl rfl
         have hk_ret_4_66f := S_6.out.froz 2 4 rfl rfl
         have hk_ret_5_66 := S_6.out.cell 2 5 rfl rfl
         have hk_ret_5_66f := S_6.out.froz 2 5 rfl rfl
         go_wp2
         have SR := Lib.hid (S_6.out.setAll 2 [.bool false, .slice none 0 0, .slice none 0 0, .bool false, .slice none 0 0, .slice none 0 0] rfl rfl)
         have hr0 := S_6.out.cell 2 0 rfl rfl
         have hr1 := S_6.out.cell 2 1 rfl rfl
         have hr2 := S_6.out.cell 2 2 rfl rfl
         have hr3 := S_6.out.cell 2 3 rfl rfl
         have hr4 := S_6.out.cell 2 4 rfl rfl
         have hr5 := S_6.out.cell 2 5 rfl rfl
         exact bodyPost_ret (v := .tuple #[.agg #[.bool false, .slice none 0 0, .slice none 0 0, .bool false, .slice none 0 0, .slice none 0 0], .bool false]) (by simp [results, Tryz.results17, go_sem, hr0, hr1, hr2, hr3, hr4, hr5]) rfl (OwnAP.no HNO.out SR.out)
     · obtain rfl : k = n := by omega
       have hl : (dats zs).take k = dats zs := List.take_of_length_le (by rw [dats_len, HL.out]; exact Nat.le_refl _)
       obtain rfl : XX = X := by rw [← HX.out, hl]; exact HXX.out.symm
       obtain rfl : YY = Y := by rw [← HY.out, hl]; exact HYY.out.symm
       have HAI := Lib.hid (show apIn (dats zs) m = true from apIn_iff.mpr (by rw [dats_len, HL.out]; exact HI.out))
       clear hl
       clear hk_c_0_5 hk_c_1_5 hk_c_2_5 hk_c_3_5 hk_c_4_5 hk_out_0_5 hk_out_0_5f hk_out_1_5 hk_out_1_5f hk_out_2_5 hk_out_2_5f hk_out_3_5 hk_out_3_5f hk_out_4_5 hk_out_4_5f hk_out_5_5 hk_out_5_5f hk_ret_0_5 hk_ret_0_5f hk_ret_1_5 hk_ret_1_5f hk_ret_2_5 hk_ret_2_5f hk_ret_3_5 hk_ret_3_5f hk_ret_4_5 hk_ret_4_5f hk_ret_5_5 hk_ret_5_5f
       have hk_out_0_66 := R_0.out.cell 0 0 rfl rfl
       have hk_out_1_66 := R_0.out.cell 0 1 rfl rfl
       have hk_out_2_66 := R_0.out.cell 0 2 rfl rfl
       have hk_out_3_66 := R_0.out.cell 0 3 rfl rfl
       have hk_out_4_66 := R_0.out.cell 0 4 rfl rfl
       have hk_out_5_66 := R_0.out.cell 0 5 rfl rfl
       go_wp2_with fail
       refine (l08Point_f XX YY (.slice Ax nx cx) (.slice Bx mx dx) (.slice Ay ny cy) (.slice By my dy) _ (R_0.out.fr 1 0 rfl rfl rfl) (R_0.out.fr 0 0 rfl rfl rfl)).mono ?_
       rintro e w9 ⟨rfl, hb⟩
       have S_67 := Lib.hid (R_0.out.call hb)
       clear R_0
       clear hb
       by_cases h5 : (XX.ok && YY.ok) = true
       · have HYS := Lib.hid (show ok = true by rw [← HOK.out, h5, HAI.out]; rfl)
         rw [h5]
         clear h5
         clear hk_out_0_66 hk_out_1_66 hk_out_2_66 hk_out_3_66 hk_out_4_66 hk_out_5_66
         have hk_out_0_67 := S_67.out.cell 0 0 rfl rfl
         have hk_out_1_67 := S_67.out.cell 0 1 rfl rfl
         have hk_out_2_67 := S_67.out.cell 0 2 rfl rfl
         have hk_out_3_67 := S_67.out.cell 0 3 rfl rfl
         have hk_out_4_67 := S_67.out.cell 0 4 rfl rfl
         have hk_out_5_67 := S_67.out.cell 0 5 rfl rfl
         have hk_ret_0_67 := S_67.out.cell 1 0 rfl rfl
         have hk_ret_0_67f := S_67.out.froz 1 0 rfl rfl
         have hk_ret_1_67 := S_67.out.cell 1 1 rfl rfl
         have hk_ret_1_67f := S_67.out.froz 1 1 rfl rfl
         have hk_ret_2_67 := S_67.out.cell 1 2 rfl rfl
         have hk_ret_2_67f := S_67.out.froz 1 2 rfl rfl
         have hk_ret_3_67 := S_67.out.cell 1 3 rfl rfl
         have hk_ret_3_67f := S_67.out.froz 1 3 rfl rfl
         have hk_ret_4_67 := S_67.out.cell 1 4 rfl rfl
         have hk_ret_4_67f := S_67.out.froz 1 4 rfl rfl
         have hk_ret_5_67 := S_67.out.cell 1 5 rfl rfl
         have hk_ret_5_67f := S_67.out.froz 1 5 rfl rfl
         go_wp2
         have SR := Lib.hid (S_67.out.setAll 1 [.bool XX.s, (.slice Ax nx cx), (.slice Bx mx dx), .bool YY.s, (.slice Ay ny cy), (.slice By my dy)] rfl rfl)
         have hr0 := S_67.out.cell 1 0 rfl rfl
         have hr1 := S_67.out.cell 1 1 rfl rfl
         have hr2 := S_67.out.cell 1 2 rfl rfl
         have hr3 := S_67.out.cell 1 3 rfl rfl
         have hr4 := S_67.out.cell 1 4 rfl rfl
         have hr5 := S_67.out.cell 1 5 rfl rfl
         exact bodyPost_ret (v := .tuple #[.agg #[.bool XX.s, (.slice Ax nx cx), (.slice Bx mx dx), .bool YY.s, (.slice Ay ny cy), (.slice By my dy)], .bool true]) (by simp [results, Tryz.results17, go_sem, hr0, hr1, hr2, hr3, hr4, hr5]) rfl (OwnAP.yes HYS.out ⟨_, _, _, _, rfl, SR.out.pick [1, 0] [[((.slice Ax nx cx), ints XX.xs), ((.slice Bx mx dx), ints XX.ys)], [((.slice Ay ny cy), ints YY.xs), ((.slice By my dy), ints YY.ys)]] (by decide) rfl, SR.out.below⟩)
       · rw [Bool.not_eq_true] at h5
         have HNO := Lib.hid (show ok = false by rw [← HOK.out, h5]; simp)
         rw [h5]
         clear h5
         clear hk_out_0_66 hk_out_1_66 hk_out_2_66 hk_out_3_66 hk_out_4_66 hk_out_5_66
         have hk_ret_0_67 := S_67.out.cell 1 0 rfl rfl
         have hk_ret_0_67f := S_67.out.froz 1 0 rfl rfl
         have hk_ret_1_67 := S_67.out.cell 1 1 rfl rfl
         have hk_ret_1_67f := S_67.out.froz 1 1 rfl rfl
         have hk_ret_2_67 := S_67.out.cell 1 2 rfl rfl
         have hk_ret_2_67f := S_67.out.froz 1 2 rfl rfl
         have hk_ret_3_67 := S_67.out.cell 1 3 rfl rfl
         have hk_ret_3_67f := S_67.out.froz 1 3 rfl rfl
         have hk_ret_4_67 := S_67.out.cell 1 4 rfl rfl
         have hk_ret_4_67f := S_67.out.froz 1 4 rfl rfl
         have hk_ret_5_67 := S_67.out.cell 1 5 rfl rfl
         have hk_ret_5_67f := S_67.out.froz 1 5 rfl rfl
         clear hk_ret_0_67 hk_ret_0_67f hk_ret_1_67 hk_ret_1_67f hk_ret_2_67 hk_ret_2_67f hk_ret_3_67 hk_ret_3_67f hk_ret_4_67 hk_ret_4_67f hk_ret_5_67 hk_ret_5_67f
         have hk_ret_0_67 := S_67.out.cell 1 0 rfl rfl
         have hk_ret_0_67f := S_67.out.froz 1 0 rfl rfl
         have hk_ret_1_67 := S_67.out.cell 1 1 rfl rfl
         have hk_ret_1_67f := S_67.out.froz 1 1 rfl rfl
         have hk_ret_2_67 := S_67.out.cell 1 2 rfl rfl
         have hk_ret_2_67f := S_67.out.froz 1 2 rfl rfl
         have hk_ret_3_67 := S_67.out.cell 1 3 rfl rfl
         have hk_ret_3_67f := S_67.out.froz 1 3 rfl rfl
         have hk_ret_4_67 := S_67.out.cell 1 4 rfl rfl
         have hk_ret_4_67f := S_67.out.froz 1 4 rfl rfl
         have hk_ret_5_67 := S_67.out.cell 1 5 rfl rfl
         have hk_ret_5_67f := S_67.out.froz 1 5 rfl rfl
         go_wp2
         have SR := Lib.hid (S_67.out.setAll 1 [.bool false, .slice none 0 0, .slice none 0 0, .bool false, .slice none 0 0, .slice none 0 0] rfl rfl)
         have hr0 := S_67.out.cell 1 0 rfl rfl
         have hr1 := S_67.out.cell 1 1 rfl rfl
         have hr2 := S_67.out.cell 1 2 rfl rfl
         have hr3 := S_67.out.cell 1 3 rfl rfl
         have hr4 := S_67.out.cell 1 4 rfl rfl
         have hr5 := S_67.out.cell 1 5 rfl rfl
         exact bodyPost_ret (v := .tuple #[.agg #[.bool false, .slice none 0 0, .slice none 0 0, .bool false, .slice none 0 0, .slice none 0 0], .bool false]) (by simp [results, Tryz.results17, go_sem, hr0, hr1, hr2, hr3, hr4, hr5]) rfl (OwnAP.no HNO.out SR.out)
 · rw [Bool.not_eq_true] at g1
   subst g1
   have HNO := Lib.hid (show ok = false by rw [← HOK.out]; rfl)
   have hk_ret_0_67 := S_2.out.cell 0 0 rfl rfl
   have hk_ret_0_67f := S_2.out.froz 0 0 rfl rfl
   have hk_ret_1_67 := S_2.out.cell 0 1 rfl rfl
   have hk_ret_1_67f := S_2.out.froz 0 1 rfl rfl
   have hk_ret_2_67 := S_2.out.cell 0 2 rfl rfl
   have hk_ret_2_67f := S_2.out.froz 0 2 rfl rfl
   have hk_ret_3_67 := S_2.out.cell 0 3 rfl rfl
   have hk_ret_3_67f := S_2.out.froz 0 3 rfl rfl
   have hk_ret_4_67 := S_2.out.cell 0 4 rfl rfl
   have hk_ret_4_67f := S_2.out.froz 0 4 rfl rfl
   have hk_ret_5_67 := S_2.out.cell 0 5 rfl rfl
   have hk_ret_5_67f := S_2.out.froz 0 5 rfl rfl
   go_wp2
   have SR := Lib.hid (S_2.out.setAll 0 [.bool false, .slice none 0 0, .slice none 0 0, .bool false, .slice none 0 0, .slice none 0 0] rfl rfl)
   have hr0 := S_2.out.cell 0 0 rfl rfl
   have hr1 := S_2.out.cell 0 1 rfl rfl
   have hr2 := S_2.out.cell 0 2 rfl rfl
   have hr3 := S_2.out.cell 0 3 rfl rfl
   have hr4 := S_2.out.cell 0 4 rfl rfl
   have hr5 := S_2.out.cell 0 5 rfl rfl
   exact bodyPost_ret (v := .tuple #[.agg #[.bool false, .slice none 0 0, .slice none 0 0, .bool false, .slice none 0 0, .slice none 0 0], .bool false]) (by simp [results, Tryz.results17, go_sem, hr0, hr1, hr2, hr3, hr4, hr5]) rfl (OwnAP.no HNO.out SR.out)
set_option maxRecDepth 100000 in
set_option maxHeartbeats 40000000 in
theorem applyConditional_i (N : Int) (T : Fr) (t0 t1 : Value) (A : Option Addr) (n c : Nat) (zs : List Rc) (D : Option Addr) (m d : Nat) (ps : List Rc) (w : World) (hT : FrA w T t0 t1) (hA : PaArg w A n zs) (hD : RArg 6 0 2 w D m ps) (hn : n ≤ 1048576) (hm : m ≤ 1048576) :
   Calls Tryz.prog 20 #[.agg #[.int .i64 N, .bool T.s, t0, t1, (.slice A n c)], .slice D m d] w (OwnAP (apOk N T (dats zs) (dats ps)) (apSum paX ptX (dats zs) (dats ps)) (apSum paY ptY (dats zs) (dats ps)) w) := by
 have HT := Lib.hid hT
 have HA := Lib.hid hA
 have HD := Lib.hid hD
 have HL := Lib.hid hA.row.len
 have HM := Lib.hid (show (dats ps).length = m by rw [dats_len]; exact hD.row.len)
 obtain ⟨ok, hok⟩ : ∃ z, apOk N T (dats zs) (dats ps) = z := ⟨_, rfl⟩
 obtain ⟨XX, hXX⟩ : ∃ z, apSum paX ptX (dats zs) (dats ps) = z := ⟨_, rfl⟩
 obtain ⟨YY, hYY⟩ : ∃ z, apSum paY ptY (dats zs) (dats ps) = z := ⟨_, rfl⟩
 obtain ⟨vc, hvc⟩ : ∃ z, okC N T (dats zs) = z := ⟨_, rfl⟩
 rw [hok, hXX, hYY]
 have HOK := Lib.hid (show (vc && (apIn (dats zs) m && (XX.ok && YY.ok))) = ok by rw [← hok, ← hvc, ← hXX, ← hYY]; unfold apOk; rw [HM.out])
 have HXX := Lib.hid hXX
 have HYY := Lib.hid hYY
 have HVC := Lib.hid hvc
 clear hT hA hD hok hXX hYY hvc
 have S_1 := Lib.hid (show St w ((w.alloc (.cells #[.int .i64 N, .bool T.s, t0, t1, (.slice A n c)] 55)).alloc (.cells #[.bool false, .slice none 0 0, .slice none 0 0, .bool false, .slice none 0 0, .slice none 0 0] 50)) [(w.heap.size + 1, [.bool false, .slice none 0 0, .slice none 0 0, .bool false, .slice none 0 0, .slice none 0 0]), (w.heap.size, [.int .i64 N, .bool T.s, t0, t1, (.slice A n c)])] [] from (((St.start w).alloc_at (b := w.heap.size) [.int .i64 N, .bool T.s, t0, t1, (.slice A n c)] 55 (by first | rfl | simp)).alloc_at (b := w.heap.size + 1) [.bool false, .slice none 0 0, .slice none 0 0, .bool false, .slice none 0 0, .slice none 0 0] 50 (by first | rfl | simp)))
 have hne_ret_c : w.heap.size + 1 ≠ w.heap.size := by omega
 have hne_c_ret : w.heap.size ≠ w.heap.size + 1 := by omega
 go_enter Tryz.func20, Tryz.ntmps20
 go_wp2_with fail
 refine (isValidConditional_i N T t0 t1 A n c zs _ (S_1.out.frA HT.out) (HA.out.below S_1.out.below) hn).mono ?_
 rintro e w1 ⟨rfl, hb⟩
 have S_2 := Lib.hid (S_1.out.call hb)
 clear S_1
 clear hb
 rw [HVC.out]
 by_cases g1 : vc = true
 · have HV := Lib.hid (HVC.out.trans g1)
   subst g1
   go_wp2_with fail
   refine (ratFromInt_i 0 _ (by decide)).mono ?_
   rintro e w2 ⟨v0, u0, rfl, ho, hb⟩
   obtain ⟨A0, n0, c0, rfl⟩ := (ho.at_ 0 rfl).shape3
   obtain ⟨B0, m0, d0, rfl⟩ := (ho.at_ 1 rfl).shape3
   have S_3 := Lib.hid (S_2.out.rows ho hb)
   clear S_2
   clear ho hb
   go_wp2_with fail
   refine (ratFromInt_i 0 _ (by decide)).mono ?_
   rintro e w3 ⟨v1, u1, rfl, ho, hb⟩
   obtain ⟨A1, n1, c1, rfl⟩ := (ho.at_ 0 rfl).shape3
   obtain ⟨B1, m1, d1, rfl⟩ := (ho.at_ 1 rfl).shape3
   have S_4 := Lib.hid (S_3.out.rows ho hb)
   clear S_3
   clear ho hb
   have S_5 := Lib.hid (S_4.out.alloc [.bool (Fr.of 0).s, (.slice A0 n0 c0), (.slice B0 m0 d0), .bool (Fr.of 0).s, (.slice A1 n1 c1), (.slice B1 m1 d1)] 50)
   clear S_4
   have hne_ret_out := S_5.out.ne 1 0 rfl rfl (by decide)
   have hne_out_ret := S_5.out.ne 0 1 rfl rfl (by decide)
   have hne_c_out := S_5.out.ne 2 0 rfl rfl (by decide)
   have hne_out_c := S_5.out.ne 0 2 rfl rfl (by decide)
   have hk_c_0_5 := S_5.out.cell 2 0 rfl rfl
   have hk_c_1_5 := S_5.out.cell 2 1 rfl rfl
   have hk_c_2_5 := S_5.out.cell 2 2 rfl rfl
   have hk_c_3_5 := S_5.out.cell 2 3 rfl rfl
   have hk_c_4_5 := S_5.out.cell 2 4 rfl rfl
   have hk_out_0_5 := S_5.out.cell 0 0 rfl rfl
   have hk_out_0_5f := S_5.out.froz 0 0 rfl rfl
   have hk_out_1_5 := S_5.out.cell 0 1 rfl rfl
   have hk_out_1_5f := S_5.out.froz 0 1 rfl rfl
   have hk_out_2_5 := S_5.out.cell 0 2 rfl rfl
   have hk_out_2_5f := S_5.out.froz 0 2 rfl rfl
   have hk_out_3_5 := S_5.out.cell 0 3 rfl rfl
   have hk_out_3_5f := S_5.out.froz 0 3 rfl rfl
   have hk_out_4_5 := S_5.out.cell 0 4 rfl rfl
   have hk_out_4_5f := S_5.out.froz 0 4 rfl rfl
   have hk_out_5_5 := S_5.out.cell 0 5 rfl rfl
   have hk_out_5_5f := S_5.out.froz 0 5 rfl rfl
   have hk_ret_0_5 := S_5.out.cell 1 0 rfl rfl
   have hk_ret_0_5f := S_5.out.froz 1 0 rfl rfl
   have hk_ret_1_5 := S_5.out.cell 1 1 rfl rfl
   have hk_ret_1_5f := S_5.out.froz 1 1 rfl rfl
   have hk_ret_2_5 := S_5.out.cell 1 2 rfl rfl
   have hk_ret_2_5f := S_5.out.froz 1 2 rfl rfl
   have hk_ret_3_5 := S_5.out.cell 1 3 rfl rfl
   have hk_ret_3_5f := S_5.out.froz 1 3 rfl rfl
   have hk_ret_4_5 := S_5.out.cell 1 4 rfl rfl
   have hk_ret_4_5f := S_5.out.froz 1 4 rfl rfl
   have hk_ret_5_5 := S_5.out.cell 1 5 rfl rfl
   have hk_ret_5_5f := S_5.out.froz 1 5 rfl rfl
   go_wp2
   have SX := Lib.hid S_5.out
   go_loopw [19] (fun i wr => ∃ (k : Nat) (X Y : Fr) (x0 x1 y0 y1 : Value), k ≤ n ∧ i = .int .i64 k ∧ inP (dats zs) m k ∧ apSum paX ptX ((dats zs).take k) (dats ps) = X ∧ apSum paY ptY ((dats zs).take k) (dats ps) = Y ∧ St w wr [(w3.heap.size, [.bool X.s, x0, x1, .bool Y.s, y0, y1]), (w.heap.size + 1, [.bool false, .slice none 0 0, .slice none 0 0, .bool false, .slice none 0 0, .slice none 0 0]), (w.heap.size, [.int .i64 N, .bool T.s, t0, t1, (.slice A n c)])] [[(y0, ints Y.xs), (y1, ints Y.ys)], [(x0, ints X.xs), (x1, ints X.ys)]]) (fun i _ => n - (intOf i).toNat)
   case atStart => exact ⟨0, Fr.of 0, Fr.of 0, _, _, _, _, Nat.zero_le _, rfl, fun i z hi => by omega, rfl, rfl, SX.out⟩
   case round =>
     obtain ⟨k, X, Y, x0, x1, y0, y1, hk, rfl, hin, hX, hY, hst⟩ := hrel
     have HI := Lib.hid hin
     have HX := Lib.hid hX
     have HY := Lib.hid hY
     obtain ⟨Ay, ny, cy, rfl⟩ := ((hst.own 0 rfl).at_ 0 rfl).shape3
     obtain ⟨By, my, dy, rfl⟩ := ((hst.own 0 rfl).at_ 1 rfl).shape3
     obtain ⟨Ax, nx, cx, rfl⟩ := ((hst.own 1 rfl).at_ 0 rfl).shape3
     obtain ⟨Bx, mx, dx, rfl⟩ := ((hst.own 1 rfl).at_ 1 rfl).shape3
     have R_0 := Lib.hid hst
     clear hin hX hY hst SX
     by_cases hlt : k < n
     · obtain ⟨g1, o1, z, rfl, hg1, hz, hr, hs, hc⟩ := HA.out.at_ hlt
       obtain ⟨ZA, ZP, ZQ, ZR, a0, n0, c0, a1, n1, c1, a2, n2, c2, a3, n3, c3, a4, n4, c4, a5, n5, c5, rfl⟩ := Rc.shapes13 hs hr
       have HZ := Lib.hid (dats_get hz)
       have HR := Lib.hid hr
       have HN := Lib.hid (show (0 ≤ ZA ∧ ZA < 10) ∧ ZP.ok = true from okC_at HV.out (dats_get hz))
       obtain ⟨q, rfl⟩ : ∃ q : Nat, ZA = q := ⟨ZA.toNat, by have := HN.out.1.1; omega⟩
       have hi0 : (0 : Int) ≤ (k : Int) := by omega
       have hi1 : (k : Int) < (n : Int) := by omega
       have d0 : wr.cell? ⟨g1, o1 + k * 10, none⟩ = some (.int .i64 (q : Int)) := (R_0.out.below.cell (p := ⟨g1, o1 + k * 10, none⟩) hg1).trans (hc 0 _ rfl)
       have d1 : wr.cell? ⟨g1, o1 + k * 10 + 1, none⟩ = some (.bool ZP.s) := (R_0.out.below.cell (p := ⟨g1, o1 + k * 10 + 1, none⟩) hg1).trans (hc 1 _ rfl)
       have d2 : wr.cell? ⟨g1, o1 + k * 10 + 2, none⟩ = some ((.slice a0 n0 c0)) := (R_0.out.below.cell (p := ⟨g1, o1 + k * 10 + 2, none⟩) hg1).trans (hc 2 _ rfl)
       have d3 : wr.cell? ⟨g1, o1 + k * 10 + 3, none⟩ = some ((.slice a1 n1 c1)) := (R_0.out.below.cell (p := ⟨g1, o1 + k * 10 + 3, none⟩) hg1).trans (hc 3 _ rfl)
       have d4 : wr.cell? ⟨g1, o1 + k * 10 + 4, none⟩ = some (.bool ZQ.s) := (R_0.out.below.cell (p := ⟨g1, o1 + k * 10 + 4, none⟩) hg1).trans (hc 4 _ rfl)
       have d5 : wr.cell? ⟨g1, o1 + k * 10 + 5, none⟩ = some ((.slice a2 n2 c2)) := (R_0.out.below.cell (p := ⟨g1, o1 + k * 10 + 5, none⟩) hg1).trans (hc 5 _ rfl)
       have d6 : wr.cell? ⟨g1, o1 + k * 10 + 6, none⟩ = some ((.slice a3 n3 c3)) := (R_0.out.below.cell (p := ⟨g1, o1 + k * 10 + 6, none⟩) hg1).trans (hc 6 _ rfl)
       have d7 : wr.cell? ⟨g1, o1 + k * 10 + 7, none⟩ = some (.bool ZR.s) := (R_0.out.below.cell (p := ⟨g1, o1 + k * 10 + 7, none⟩) hg1).trans (hc 7 _ rfl)
       have d8 : wr.cell? ⟨g1, o1 + k * 10 + 8, none⟩ = some ((.slice a4 n4 c4)) := (R_0.out.below.cell (p := ⟨g1, o1 + k * 10 + 8, none⟩) hg1).trans (hc 8 _ rfl)
       have d9 : wr.cell? ⟨g1, o1 + k * 10 + 9, none⟩ = some ((.slice a5 n5 c5)) := (R_0.out.below.cell (p := ⟨g1, o1 + k * 10 + 9, none⟩) hg1).trans (hc 9 _ rfl)
       clear hz hs hc hr
       have S_6 := Lib.hid (R_0.out.alloc [.int .i64 (q : Int), .bool ZP.s, (.slice a0 n0 c0), (.slice a1 n1 c1), .bool ZQ.s, (.slice a2 n2 c2), (.slice a3 n3 c3), .bool ZR.s, (.slice a4 n4 c4), (.slice a5 n5 c5)] 84)
       clear R_0
       have hne_out_p := S_6.out.ne 1 0 rfl rfl (by decide)
       have hne_p_out := S_6.out.ne 0 1 rfl rfl (by decide)
       have hne_ret_p := S_6.out.ne 2 0 rfl rfl (by decide)
       have hne_p_ret := S_6.out.ne 0 2 rfl rfl (by decide)
       have hne_c_p := S_6.out.ne 3 0 rfl rfl (by decide)
       have hne_p_c := S_6.out.ne 0 3 rfl rfl (by decide)
       clear hk_c_0_5 hk_c_1_5 hk_c_2_5 hk_c_3_5 hk_c_4_5 hk_out_0_5 hk_out_0_5f hk_out_1_5 hk_out_1_5f hk_out_2_5 hk_out_2_5f hk_out_3_5 hk_out_3_5f hk_out_4_5 hk_out_4_5f hk_out_5_5 hk_out_5_5f hk_ret_0_5 hk_ret_0_5f hk_ret_1_5 hk_ret_1_5f hk_ret_2_5 hk_ret_2_5f hk_ret_3_5 hk_ret_3_5f hk_ret_4_5 hk_ret_4_5f hk_ret_5_5 hk_ret_5_5f
       have hk_c_0_6 := S_6.out.cell 3 0 rfl rfl
       have hk_c_1_6 := S_6.out.cell 3 1 rfl rfl
       have hk_c_2_6 := S_6.out.cell 3 2 rfl rfl
       have hk_c_3_6 := S_6.out.cell 3 3 rfl rfl
       have hk_c_4_6 := S_6.out.cell 3 4 rfl rfl
       have hk_p_0_6 := S_6.out.cell 0 0 rfl rfl
       have hk_p_1_6 := S_6.out.cell 0 1 rfl rfl
       have hk_p_2_6 := S_6.out.cell 0 2 rfl rfl
       have hk_p_3_6 := S_6.out.cell 0 3 rfl rfl
       have hk_p_4_6 := S_6.out.cell 0 4 rfl rfl
       have hk_p_5_6 := S_6.out.cell 0 5 rfl rfl
       have hk_p_6_6 := S_6.out.cell 0 6 rfl rfl
       have hk_p_7_6 := S_6.out.cell 0 7 rfl rfl
       have hk_p_8_6 := S_6.out.cell 0 8 rfl rfl
       have hk_p_9_6 := S_6.out.cell 0 9 rfl rfl
       have hk_out_0_6 := S_6.out.cell 1 0 rfl rfl
       have hk_out_1_6 := S_6.out.cell 1 1 rfl rfl
       have hk_out_2_6 := S_6.out.cell 1 2 rfl rfl
       have hk_out_3_6 := S_6.out.cell 1 3 rfl rfl
       have hk_out_4_6 := S_6.out.cell 1 4 rfl rfl
       have hk_out_5_6 := S_6.out.cell 1 5 rfl rfl
       have hk_ret_0_6 := S_6.out.cell 2 0 rfl rfl
       have hk_ret_1_6 := S_6.out.cell 2 1 rfl rfl
       have hk_ret_2_6 := S_6.out.cell 2 2 rfl rfl
       have hk_ret_3_6 := S_6.out.cell 2 3 rfl rfl
       have hk_ret_4_6 := S_6.out.cell 2 4 rfl rfl
       have hk_ret_5_6 := S_6.out.cell 2 5 rfl rfl
       by_cases h1 : (q : Int) < (m : Int)
       · have HI2 := Lib.hid (inP_step HI.out HZ.out (show (q : Int) < (m : Int) from h1))
         have h1b : ¬ (m : Int) ≤ (q : Int) := by omega
         have hq0 : (0 : Int) ≤ (q : Int) := by omega
         obtain ⟨g2, o2, y, rfl, hg2, hy, hry, hsy, hcy⟩ := HD.out.at_ (show q < m by omega)
         obtain ⟨GP, GQ, e0, m0, j0, e1, m1, j1, e2, m2, j2, e3, m3, j3, rfl⟩ := Rc.shapes02 hsy hry
         have HRY := Lib.hid hry
         have HG := Lib.hid (show (dats ps).getD ((q : Int).toNat) ([], []) = Rc.dat ⟨[], [(GP, .slice e0 m0 j0, .slice e1 m1 j1), (GQ, .slice e2 m2 j2, .slice e3 m3 j3)]⟩ by rw [Int.toNat_natCast, List.getD_eq_getElem?_getD, dats_get hy]; rfl)
         have x_0 : w.cell? ⟨g2, o2 + q * 6, none⟩ = some (.bool GP.s) := hcy 0 _ rfl
         have x_1 : w.cell? ⟨g2, o2 + q * 6 + 1, none⟩ = some ((.slice e0 m0 j0)) := hcy 1 _ rfl
         have x_2 : w.cell? ⟨g2, o2 + q * 6 + 2, none⟩ = some ((.slice e1 m1 j1)) := hcy 2 _ rfl
         have x_3 : w.cell? ⟨g2, o2 + q * 6 + 3, none⟩ = some (.bool GQ.s) := hcy 3 _ rfl
         have x_4 : w.cell? ⟨g2, o2 + q * 6 + 4, none⟩ = some ((.slice e2 m2 j2)) := hcy 4 _ rfl
         have x_5 : w.cell? ⟨g2, o2 + q * 6 + 5, none⟩ = some ((.slice e3 m3 j3)) := hcy 5 _ rfl
         clear hy hsy hry hcy
         go_upto_region 9 with fail
         clear d0 d1 d2 d3 d4 d5 d6 d7 d8 d9
         clear hk_c_0_6 hk_c_1_6 hk_c_2_6 hk_c_3_6 hk_c_4_6 hk_p_0_6 hk_p_1_6 hk_p_2_6 hk_p_3_6 hk_p_4_6 hk_p_5_6 hk_p_6_6 hk_p_7_6 hk_p_8_6 hk_p_9_6 hk_out_0_6 hk_out_1_6 hk_out_2_6 hk_out_3_6 hk_out_4_6 hk_out_5_6 hk_ret_0_6 hk_ret_1_6 hk_ret_2_6 hk_ret_3_6 hk_ret_4_6 hk_ret_5_6
         go_cut [] (fun wx => ∃ Af3 nf3 cf3 Bf3 mf3 df3, St w wx [(wr.heap.size, [.int .i64 (q : Int), .bool ZP.s, (.slice a0 n0 c0), (.slice a1 n1 c1), .bool ZQ.s, (.slice a2 n2 c2), (.slice a3 n3 c3), .bool ZR.s, (.slice a4 n4 c4), (.slice a5 n5 c5)]), (w3.heap.size, [.bool (X.add (ZP.mul (GP.add ZQ))).s, (.slice Af3 nf3 cf3), (.slice Bf3 mf3 df3), .bool Y.s, (.slice Ay ny cy), (.slice By my dy)]), (w.heap.size + 1, [.bool false, .slice none 0 0, .slice none 0 0, .bool false, .slice none 0 0, .slice none 0 0]), (w.heap.size, [.int .i64 N, .bool T.s, t0, t1, (.slice (some ⟨g1, o1, none⟩) n c)])] [[((.slice Af3 nf3 cf3), ints (X.add (ZP.mul (GP.add ZQ))).xs), ((.slice Bf3 mf3 df3), ints (X.add (ZP.mul (GP.add ZQ))).ys)], [((.slice Ay ny cy), ints Y.xs), ((.slice By my dy), ints Y.ys)], [((.slice Ax nx cx), ints X.xs), ((.slice Bx mx dx), ints X.ys)]])
         case first =>
           refine wp_region_noPanic ?_
           refine wp_region_held_drew (S := (fun w' => w'.cell? ⟨wr.heap.size, 0, none⟩ = some (.int .i64 (q : Int)) ∧ w'.cell? ⟨wr.heap.size, 1, none⟩ = some (.bool ZP.s) ∧ w'.cell? ⟨wr.heap.size, 2, none⟩ = some ((.slice a0 n0 c0)) ∧ w'.cell? ⟨wr.heap.size, 3, none⟩ = some ((.slice a1 n1 c1)) ∧ w'.cell? ⟨wr.heap.size, 4, none⟩ = some (.bool ZQ.s) ∧ w'.cell? ⟨wr.heap.size, 5, none⟩ = some ((.slice a2 n2 c2)) ∧ w'.cell? ⟨wr.heap.size, 6, none⟩ = some ((.slice a3 n3 c3)) ∧ w'.cell? ⟨wr.heap.size, 7, none⟩ = some (.bool ZR.s) ∧ w'.cell? ⟨wr.heap.size, 8, none⟩ = some ((.slice a4 n4 c4)) ∧ w'.cell? ⟨wr.heap.size, 9, none⟩ = some ((.slice a5 n5 c5)) ∧ w'.cell? ⟨g2, o2 + q * 6, none⟩ = some (.bool GP.s) ∧ w'.cell? ⟨g2, o2 + q * 6 + 1, none⟩ = some ((.slice e0 m0 j0)) ∧ w'.cell? ⟨g2, o2 + q * 6 + 2, none⟩ = some ((.slice e1 m1 j1)) ∧ w'.cell? ⟨g2, o2 + q * 6 + 3, none⟩ = some (.bool GQ.s) ∧ w'.cell? ⟨g2, o2 + q * 6 + 4, none⟩ = some ((.slice e2 m2 j2)) ∧ w'.cell? ⟨g2, o2 + q * 6 + 5, none⟩ = some ((.slice e3 m3 j3)))) (by kernel_rfl) ?_ (fun hHeld => ?_)
           · exact ⟨S_6.out.drew.cell 0 0 rfl rfl, S_6.out.drew.cell 0 1 rfl rfl, S_6.out.drew.cell 0 2 rfl rfl, S_6.out.drew.cell 0 3 rfl rfl, S_6.out.drew.cell 0 4 rfl rfl, S_6.out.drew.cell 0 5 rfl rfl, S_6.out.drew.cell 0 6 rfl rfl, S_6.out.drew.cell 0 7 rfl rfl, S_6.out.drew.cell 0 8 rfl rfl, S_6.out.drew.cell 0 9 rfl rfl, (S_6.out.drew.below.cell (p := ⟨g2, o2 + q * 6, none⟩) hg2).trans x_0, (S_6.out.drew.below.cell (p := ⟨g2, o2 + q * 6 + 1, none⟩) hg2).trans x_1, (S_6.out.drew.below.cell (p := ⟨g2, o2 + q * 6 + 2, none⟩) hg2).trans x_2, (S_6.out.drew.below.cell (p := ⟨g2, o2 + q * 6 + 3, none⟩) hg2).trans x_3, (S_6.out.drew.below.cell (p := ⟨g2, o2 + q * 6 + 4, none⟩) hg2).trans x_4, (S_6.out.drew.below.cell (p := ⟨g2, o2 + q * 6 + 5, none⟩) hg2).trans x_5⟩
           refine tkH 0 ?_ ⟨some 29, .fieldAddr 50 (.tmp 6) 0, 0, "l08_star.go:81", #[], none⟩ ?_ ?_
           rotate_left
           · intro w9 hSw; (try dsimp only at hSw); go_simp; try with_reducible rfl
           try simp only [pm, s0, sS]
           refine tkH 2 ?_ ⟨some 31, .fieldAddr 84 (.tmp 8) 1, 0, "l08_star.go:81", #[], none⟩ ?_ ?_
           rotate_left
           · intro w9 hSw; (try dsimp only at hSw); go_simp; try with_reducible rfl
           try simp only [pm, s0, sS]
           refine tkH 3 ?_ ⟨some 32, .load 32 (.tmp 31), 32, "l08_star.go:81", #[⟨2, .data⟩], none⟩ ?_ ?_
           rotate_left
           · intro w9 hSw; (try dsimp only at hSw); go_simp; try with_reducible rfl
           try simp only [pm, s0, sS]
           refine tkH 4 ?_ ⟨some 33, .move (.tmp 1), 57, "l08_star.go:81", #[], none⟩ ?_ ?_
           rotate_left
           · intro w9 hSw; (try dsimp only at hSw); go_simp; try with_reducible rfl
           try simp only [pm, s0, sS]
           refine tkH 5 ?_ ⟨some 34, .fieldAddr 84 (.tmp 8) 0, 0, "l08_star.go:81", #[], none⟩ ?_ ?_
           rotate_left
           · intro w9 hSw; (try dsimp only at hSw); go_simp; try with_reducible rfl
           try simp only [pm, s0, sS]
           refine tkH 6 ?_ ⟨some 35, .load 3 (.tmp 34), 3, "l08_star.go:81", #[⟨5, .data⟩], none⟩ ?_ ?_
           rotate_left
           · intro w9 hSw; (try dsimp only at hSw); go_simp; try with_reducible rfl
           try simp only [pm, s0, sS]
           refine tkH 7 ?_ ⟨some 36, .indexAddr 57 (.tmp 33) (.tmp 35), 0, "l08_star.go:81", #[⟨4, .data⟩, ⟨6, .data⟩], none⟩ ?_ ?_
           rotate_left
           · intro w9 hSw; (try dsimp only at hSw); go_simp; try with_reducible rfl
           try simp only [pm, s0, sS]
           refine tkH 8 ?_ ⟨some 37, .fieldAddr 50 (.tmp 36) 0, 0, "l08_star.go:81", #[⟨7, .data⟩], none⟩ ?_ ?_
           rotate_left
           · intro w9 hSw; (try dsimp only at hSw); go_simp; try with_reducible rfl
           try simp only [pm, s0, sS]
           refine tkH 9 ?_ ⟨some 38, .load 32 (.tmp 37), 32, "l08_star.go:81", #[⟨8, .data⟩], none⟩ ?_ ?_
           rotate_left
           · intro w9 hSw; (try dsimp only at hSw); go_simp; try with_reducible rfl
           try simp only [pm, s0, sS]
           refine tkH 10 ?_ ⟨some 39, .fieldAddr 84 (.tmp 8) 2, 0, "l08_star.go:81", #[], none⟩ ?_ ?_
           rotate_left
           · intro w9 hSw; (try dsimp only at hSw); go_simp; try with_reducible rfl
           try simp only [pm, s0, sS]
           refine tkH 11 ?_ ⟨some 40, .load 32 (.tmp 39), 32, "l08_star.go:81", #[⟨10, .data⟩], none⟩ ?_ ?_
           rotate_left
           · intro w9 hSw; (try dsimp only at hSw); go_simp; try with_reducible rfl
           try simp only [pm, s0, sS]
           refine wpAnyH_ready (rs := [1, 12]) (by kernel_rfl) (by simp) ?_
           refine AllReadyH.cons (o := ⟨some 30, .load 32 (.tmp 29), 32, "l08_star.go:81", #[⟨0, .data⟩], none⟩) rfl (fun K hK => ?_) ?_
           · have hl_0 := S_6.out.drew.cell 1 0 rfl rfl
             have hl_1 := S_6.out.drew.cell 1 1 rfl rfl
             have hl_2 := S_6.out.drew.cell 1 2 rfl rfl
             go_simp
             clear hl_0 hl_1 hl_2
             refine hK.out _ _ (⟨S_6.out.drew.cell 0 0 rfl rfl, S_6.out.drew.cell 0 1 rfl rfl, S_6.out.drew.cell 0 2 rfl rfl, S_6.out.drew.cell 0 3 rfl rfl, S_6.out.drew.cell 0 4 rfl rfl, S_6.out.drew.cell 0 5 rfl rfl, S_6.out.drew.cell 0 6 rfl rfl, S_6.out.drew.cell 0 7 rfl rfl, S_6.out.drew.cell 0 8 rfl rfl, S_6.out.drew.cell 0 9 rfl rfl, (S_6.out.drew.below.cell (p := ⟨g2, o2 + q * 6, none⟩) hg2).trans x_0, (S_6.out.drew.below.cell (p := ⟨g2, o2 + q * 6 + 1, none⟩) hg2).trans x_1, (S_6.out.drew.below.cell (p := ⟨g2, o2 + q * 6 + 2, none⟩) hg2).trans x_2, (S_6.out.drew.below.cell (p := ⟨g2, o2 + q * 6 + 3, none⟩) hg2).trans x_3, (S_6.out.drew.below.cell (p := ⟨g2, o2 + q * 6 + 4, none⟩) hg2).trans x_4, (S_6.out.drew.below.cell (p := ⟨g2, o2 + q * 6 + 5, none⟩) hg2).trans x_5⟩) (fun hHeld1 => ?_)
             clear hK K
             try simp only [pm, s0, sS]
             refine wpAnyH_ready (rs := [12]) (by kernel_rfl) (by simp) ?_
             refine AllReadyH.cons (o := ⟨some 41, .call { callee := .value (.func 57), args := #[.tmp 38, .tmp 40], argTypes := #[32, 32] }, 32, "l08_star.go:81", #[⟨9, .data⟩, ⟨11, .data⟩], none⟩) rfl (fun K hK => ?_) AllReadyH.nil
             go_simp
             go_at_call 57
             refine (ratAdd_i GP ZQ (.slice e0 m0 j0) (.slice e1 m1 j1) (.slice a2 n2 c2) (.slice a3 n3 c3) _ (HRY.out.below S_6.out.drew.below (GP, .slice e0 m0 j0, .slice e1 m1 j1) (by simp)) (HR.out.below S_6.out.drew.below (ZQ, .slice a2 n2 c2, .slice a3 n3 c3) (by simp))).mono ?_
             rintro e wf1 ⟨vf1, uf1, rfl, ho, hb⟩
             obtain ⟨Af1, nf1, cf1, rfl⟩ := (ho.at_ 0 rfl).shape3
             obtain ⟨Bf1, mf1, df1, rfl⟩ := (ho.at_ 1 rfl).shape3
             have S_7 := Lib.hid (S_6.out.drew.rows ho hb)
             clear S_6 ho hb
             refine hK.out _ _ (⟨S_7.out.cell 0 0 rfl rfl, S_7.out.cell 0 1 rfl rfl, S_7.out.cell 0 2 rfl rfl, S_7.out.cell 0 3 rfl rfl, S_7.out.cell 0 4 rfl rfl, S_7.out.cell 0 5 rfl rfl, S_7.out.cell 0 6 rfl rfl, S_7.out.cell 0 7 rfl rfl, S_7.out.cell 0 8 rfl rfl, S_7.out.cell 0 9 rfl rfl, (S_7.out.below.cell (p := ⟨g2, o2 + q * 6, none⟩) hg2).trans x_0, (S_7.out.below.cell (p := ⟨g2, o2 + q * 6 + 1, none⟩) hg2).trans x_1, (S_7.out.below.cell (p := ⟨g2, o2 + q * 6 + 2, none⟩) hg2).trans x_2, (S_7.out.below.cell (p := ⟨g2, o2 + q * 6 + 3, none⟩) hg2).trans x_3, (S_7.out.below.cell (p := ⟨g2, o2 + q * 6 + 4, none⟩) hg2).trans x_4, (S_7.out.below.cell (p := ⟨g2, o2 + q * 6 + 5, none⟩) hg2).trans x_5⟩) (fun hHeld12 => ?_)
             clear hK K
             try simp only [pm, s0, sS]
             refine wpAnyH_ready (rs := [13]) (by kernel_rfl) (by simp) ?_
             refine AllReadyH.cons (o := ⟨some 42, .call { callee := .value (.func 56), args := #[.tmp 32, .tmp 41], argTypes := #[32, 32] }, 32, "l08_star.go:81", #[⟨3, .data⟩, ⟨12, .data⟩, ⟨12, .chain⟩], none⟩) rfl (fun K hK => ?_) AllReadyH.nil
             go_simp
             go_at_call 56
             refine (times_f ZP (GP.add ZQ) (.slice a0 n0 c0) (.slice a1 n1 c1) (.slice Af1 nf1 cf1) (.slice Bf1 mf1 df1) _ (.inl HN.out.2) (good_add _ _) (HR.out.below S_7.out.below (ZP, .slice a0 n0 c0, .slice a1 n1 c1) (by simp)) (S_7.out.fr 0 0 rfl rfl rfl)).mono ?_
             rintro e wf2 ⟨vf2, uf2, rfl, ho, hb⟩
             obtain ⟨Af2, nf2, cf2, rfl⟩ := (ho.at_ 0 rfl).shape3
             obtain ⟨Bf2, mf2, df2, rfl⟩ := (ho.at_ 1 rfl).shape3
             have S_8 := Lib.hid (S_7.out.rows ho hb)
             clear S_7 ho hb
             refine hK.out _ _ (⟨S_8.out.cell 0 0 rfl rfl, S_8.out.cell 0 1 rfl rfl, S_8.out.cell 0 2 rfl rfl, S_8.out.cell 0 3 rfl rfl, S_8.out.cell 0 4 rfl rfl, S_8.out.cell 0 5 rfl rfl, S_8.out.cell 0 6 rfl rfl, S_8.out.cell 0 7 rfl rfl, S_8.out.cell 0 8 rfl rfl, S_8.out.cell 0 9 rfl rfl, (S_8.out.below.cell (p := ⟨g2, o2 + q * 6, none⟩) hg2).trans x_0, (S_8.out.below.cell (p := ⟨g2, o2 + q * 6 + 1, none⟩) hg2).trans x_1, (S_8.out.below.cell (p := ⟨g2, o2 + q * 6 + 2, none⟩) hg2).trans x_2, (S_8.out.below.cell (p := ⟨g2, o2 + q * 6 + 3, none⟩) hg2).trans x_3, (S_8.out.below.cell (p := ⟨g2, o2 + q * 6 + 4, none⟩) hg2).trans x_4, (S_8.out.below.cell (p := ⟨g2, o2 + q * 6 + 5, none⟩) hg2).trans x_5⟩) (fun hHeld13 => ?_)
             clear hK K
             try simp only [pm, s0, sS]
             refine wpAnyH_ready (rs := [14]) (by kernel_rfl) (by simp) ?_
             refine AllReadyH.cons (o := ⟨some 43, .call { callee := .value (.func 55), args := #[.tmp 30, .tmp 42], argTypes := #[32, 32] }, 32, "l08_star.go:81", #[⟨1, .data⟩, ⟨13, .data⟩, ⟨13, .chain⟩], none⟩) rfl (fun K hK => ?_) AllReadyH.nil
             go_simp
             go_at_call 55
             refine (plus_f X (ZP.mul (GP.add ZQ)) (.slice Ax nx cx) (.slice Bx mx dx) (.slice Af2 nf2 cf2) (.slice Bf2 mf2 df2) _ (HX.out ▸ apSum_good _ _ _ _) (good_mul _ _) (S_8.out.fr 3 0 rfl rfl rfl) (S_8.out.fr 0 0 rfl rfl rfl)).mono ?_
             rintro e wf3 ⟨vf3, uf3, rfl, ho, hb⟩
             obtain ⟨Af3, nf3, cf3, rfl⟩ := (ho.at_ 0 rfl).shape3
             obtain ⟨Bf3, mf3, df3, rfl⟩ := (ho.at_ 1 rfl).shape3
             have S_9 := Lib.hid (S_8.out.rows ho hb)
             clear S_8 ho hb
             refine hK.out _ _ (⟨S_9.out.cell 0 0 rfl rfl, S_9.out.cell 0 1 rfl rfl, S_9.out.cell 0 2 rfl rfl, S_9.out.cell 0 3 rfl rfl, S_9.out.cell 0 4 rfl rfl, S_9.out.cell 0 5 rfl rfl, S_9.out.cell 0 6 rfl rfl, S_9.out.cell 0 7 rfl rfl, S_9.out.cell 0 8 rfl rfl, S_9.out.cell 0 9 rfl rfl, (S_9.out.below.cell (p := ⟨g2, o2 + q * 6, none⟩) hg2).trans x_0, (S_9.out.below.cell (p := ⟨g2, o2 + q * 6 + 1, none⟩) hg2).trans x_1, (S_9.out.below.cell (p := ⟨g2, o2 + q * 6 + 2, none⟩) hg2).trans x_2, (S_9.out.below.cell (p := ⟨g2, o2 + q * 6 + 3, none⟩) hg2).trans x_3, (S_9.out.below.cell (p := ⟨g2, o2 + q * 6 + 4, none⟩) hg2).trans x_4, (S_9.out.below.cell (p := ⟨g2, o2 + q * 6 + 5, none⟩) hg2).trans x_5⟩) (fun hHeld14 => ?_)
             clear hK K
             try simp only [pm, s0, sS]
             refine tkH 15 ?_ ⟨some 44, .fieldAddr 50 (.tmp 6) 0, 0, "l08_star.go:81", #[⟨0, .phase⟩, ⟨1, .phase⟩, ⟨2, .phase⟩, ⟨3, .phase⟩, ⟨4, .phase⟩, ⟨5, .phase⟩, ⟨6, .phase⟩, ⟨7, .phase⟩, ⟨8, .phase⟩, ⟨9, .phase⟩, ⟨10, .phase⟩, ⟨11, .phase⟩, ⟨12, .phase⟩, ⟨13, .phase⟩, ⟨14, .phase⟩], none⟩ ?_ ?_
             rotate_left
             · intro w9 hSw; (try dsimp only at hSw); go_simp; try with_reducible rfl
             try simp only [pm, s0, sS]
             refine wpAnyH_ready (rs := [16]) (by kernel_rfl) (by simp) ?_
             refine AllReadyH.cons (o := ⟨none, .store 32 (.tmp 44) (.tmp 43), 0, "l08_star.go:81", #[⟨15, .data⟩, ⟨14, .data⟩, ⟨14, .chain⟩, ⟨0, .phase⟩, ⟨1, .phase⟩, ⟨2, .phase⟩, ⟨3, .phase⟩, ⟨4, .phase⟩, ⟨5, .phase⟩, ⟨6, .phase⟩, ⟨7, .phase⟩, ⟨8, .phase⟩, ⟨9, .phase⟩, ⟨10, .phase⟩, ⟨11, .phase⟩, ⟨12, .phase⟩, ⟨13, .phase⟩, ⟨14, .phase⟩], none⟩) rfl (fun K hK => ?_) AllReadyH.nil
             rw [if_pos (by rfl)]
             refine wp_store_mid _ _ _ rfl _ _ (List.toArray [.bool (X.add (ZP.mul (GP.add ZQ))).s, (.slice Af3 nf3 cf3), (.slice Bf3 mf3 df3)]) rfl rfl (S_9.out.there9 1 0 (n := 3) rfl (by simp)) size_rat9 (all_oneCell_toArray (cs := [.bool (X.add (ZP.mul (GP.add ZQ))).s, (.slice Af3 nf3 cf3), (.slice Bf3 mf3 df3)]) (List.all_eq_true.mp rfl)) ?_
             simp only [Act.put]
             have S_10 := Lib.hid (show St w (wf3.setCells w3.heap.size 0 [.bool (X.add (ZP.mul (GP.add ZQ))).s, (.slice Af3 nf3 cf3), (.slice Bf3 mf3 df3)]) [(wr.heap.size, [.int .i64 (q : Int), .bool ZP.s, (.slice a0 n0 c0), (.slice a1 n1 c1), .bool ZQ.s, (.slice a2 n2 c2), (.slice a3 n3 c3), .bool ZR.s, (.slice a4 n4 c4), (.slice a5 n5 c5)]), (w3.heap.size, [.bool (X.add (ZP.mul (GP.add ZQ))).s, (.slice Af3 nf3 cf3), (.slice Bf3 mf3 df3), .bool Y.s, (.slice Ay ny cy), (.slice By my dy)]), (w.heap.size + 1, [.bool false, .slice none 0 0, .slice none 0 0, .bool false, .slice none 0 0, .slice none 0 0]), (w.heap.size, [.int .i64 N, .bool T.s, t0, t1, (.slice (some ⟨g1, o1, none⟩) n c)])] [[((.slice Af3 nf3 cf3), ints (X.add (ZP.mul (GP.add ZQ))).xs), ((.slice Bf3 mf3 df3), ints (X.add (ZP.mul (GP.add ZQ))).ys)], [((.slice Af2 nf2 cf2), ints (ZP.mul (GP.add ZQ)).xs), ((.slice Bf2 mf2 df2), ints (ZP.mul (GP.add ZQ)).ys)], [((.slice Af1 nf1 cf1), ints (GP.add ZQ).xs), ((.slice Bf1 mf1 df1), ints (GP.add ZQ).ys)], [((.slice Ay ny cy), ints Y.xs), ((.slice By my dy), ints Y.ys)], [((.slice Ax nx cx), ints X.xs), ((.slice Bx mx dx), ints X.ys)]] from S_9.out.seg9 (k := 1) (X := []) (old := [.bool X.s, (.slice Ax nx cx), (.slice Bx mx dx)]) (us := [.bool (X.add (ZP.mul (GP.add ZQ))).s, (.slice Af3 nf3 cf3), (.slice Bf3 mf3 df3)]) (rest := [.bool Y.s, (.slice Ay ny cy), (.slice By my dy)]) (m := 0) rfl rfl rfl)
             clear S_9
             refine hK.out _ _ (⟨S_10.out.cell 0 0 rfl rfl, S_10.out.cell 0 1 rfl rfl, S_10.out.cell 0 2 rfl rfl, S_10.out.cell 0 3 rfl rfl, S_10.out.cell 0 4 rfl rfl, S_10.out.cell 0 5 rfl rfl, S_10.out.cell 0 6 rfl rfl, S_10.out.cell 0 7 rfl rfl, S_10.out.cell 0 8 rfl rfl, S_10.out.cell 0 9 rfl rfl, (S_10.out.below.cell (p := ⟨g2, o2 + q * 6, none⟩) hg2).trans x_0, (S_10.out.below.cell (p := ⟨g2, o2 + q * 6 + 1, none⟩) hg2).trans x_1, (S_10.out.below.cell (p := ⟨g2, o2 + q * 6 + 2, none⟩) hg2).trans x_2, (S_10.out.below.cell (p := ⟨g2, o2 + q * 6 + 3, none⟩) hg2).trans x_3, (S_10.out.below.cell (p := ⟨g2, o2 + q * 6 + 4, none⟩) hg2).trans x_4, (S_10.out.below.cell (p := ⟨g2, o2 + q * 6 + 5, none⟩) hg2).trans x_5⟩) (fun hHeld16 => ?_)
             clear hK K
             try simp only [pm, s0, sS]
             refine wpAnyH_done (by kernel_rfl) ?_ _
             refine NoPanic.normal ?_
             go_wp2_with fail
             go_meet
             refine ⟨Af3, nf3, cf3, Bf3, mf3, df3, ?_⟩
             exact ((S_10.out.drop 2).drop 1)
           refine AllReadyH.cons (o := ⟨some 41, .call { callee := .value (.func 57), args := #[.tmp 38, .tmp 40], argTypes := #[32, 32] }, 32, "l08_star.go:81", #[⟨9, .data⟩, ⟨11, .data⟩], none⟩) rfl (fun K hK => ?_) ?_
           · go_simp
             go_at_call 57
             refine (ratAdd_i GP ZQ (.slice e0 m0 j0) (.slice e1 m1 j1) (.slice a2 n2 c2) (.slice a3 n3 c3) _ (HRY.out.below S_6.out.drew.below (GP, .slice e0 m0 j0, .slice e1 m1 j1) (by simp)) (HR.out.below S_6.out.drew.below (ZQ, .slice a2 n2 c2, .slice a3 n3 c3) (by simp))).mono ?_
             rintro e wf1 ⟨vf1, uf1, rfl, ho, hb⟩
             obtain ⟨Af1, nf1, cf1, rfl⟩ := (ho.at_ 0 rfl).shape3
             obtain ⟨Bf1, mf1, df1, rfl⟩ := (ho.at_ 1 rfl).shape3
             have S_7 := Lib.hid (S_6.out.drew.rows ho hb)
             clear S_6 ho hb
             refine hK.out _ _ (⟨S_7.out.cell 0 0 rfl rfl, S_7.out.cell 0 1 rfl rfl, S_7.out.cell 0 2 rfl rfl, S_7.out.cell 0 3 rfl rfl, S_7.out.cell 0 4 rfl rfl, S_7.out.cell 0 5 rfl rfl, S_7.out.cell 0 6 rfl rfl, S_7.out.cell 0 7 rfl rfl, S_7.out.cell 0 8 rfl rfl, S_7.out.cell 0 9 rfl rfl, (S_7.out.below.cell (p := ⟨g2, o2 + q * 6, none⟩) hg2).trans x_0, (S_7.out.below.cell (p := ⟨g2, o2 + q * 6 + 1, none⟩) hg2).trans x_1, (S_7.out.below.cell (p := ⟨g2, o2 + q * 6 + 2, none⟩) hg2).trans x_2, (S_7.out.below.cell (p := ⟨g2, o2 + q * 6 + 3, none⟩) hg2).trans x_3, (S_7.out.below.cell (p := ⟨g2, o2 + q * 6 + 4, none⟩) hg2).trans x_4, (S_7.out.below.cell (p := ⟨g2, o2 + q * 6 + 5, none⟩) hg2).trans x_5⟩) (fun hHeld12 => ?_)
             clear hK K
             try simp only [pm, s0, sS]
             refine wpAnyH_ready (rs := [1, 13]) (by kernel_rfl) (by simp) ?_
             refine AllReadyH.cons (o := ⟨some 30, .load 32 (.tmp 29), 32, "l08_star.go:81", #[⟨0, .data⟩], none⟩) rfl (fun K hK => ?_) ?_
             · have hl_0 := S_7.out.cell 1 0 rfl rfl
               have hl_1 := S_7.out.cell 1 1 rfl rfl
               have hl_2 := S_7.out.cell 1 2 rfl rfl
               go_simp
               clear hl_0 hl_1 hl_2
               refine hK.out _ _ (⟨S_7.out.cell 0 0 rfl rfl, S_7.out.cell 0 1 rfl rfl, S_7.out.cell 0 2 rfl rfl, S_7.out.cell 0 3 rfl rfl, S_7.out.cell 0 4 rfl rfl, S_7.out.cell 0 5 rfl rfl, S_7.out.cell 0 6 rfl rfl, S_7.out.cell 0 7 rfl rfl, S_7.out.cell 0 8 rfl rfl, S_7.out.cell 0 9 rfl rfl, (S_7.out.below.cell (p := ⟨g2, o2 + q * 6, none⟩) hg2).trans x_0, (S_7.out.below.cell (p := ⟨g2, o2 + q * 6 + 1, none⟩) hg2).trans x_1, (S_7.out.below.cell (p := ⟨g2, o2 + q * 6 + 2, none⟩) hg2).trans x_2, (S_7.out.below.cell (p := ⟨g2, o2 + q * 6 + 3, none⟩) hg2).trans x_3, (S_7.out.below.cell (p := ⟨g2, o2 + q * 6 + 4, none⟩) hg2).trans x_4, (S_7.out.below.cell (p := ⟨g2, o2 + q * 6 + 5, none⟩) hg2).trans x_5⟩) (fun hHeld1 => ?_)
               clear hK K
               try simp only [pm, s0, sS]
               refine wpAnyH_ready (rs := [13]) (by kernel_rfl) (by simp) ?_
               refine AllReadyH.cons (o := ⟨some 42, .call { callee := .value (.func 56), args := #[.tmp 32, .tmp 41], argTypes := #[32, 32] }, 32, "l08_star.go:81", #[⟨3, .data⟩, ⟨12, .data⟩, ⟨12, .chain⟩], none⟩) rfl (fun K hK => ?_) AllReadyH.nil
               go_simp
               go_at_call 56
               refine (times_f ZP (GP.add ZQ) (.slice a0 n0 c0) (.slice a1 n1 c1) (.slice Af1 nf1 cf1) (.slice Bf1 mf1 df1) _ (.inl HN.out.2) (good_add _ _) (HR.out.below S_7.out.below (ZP, .slice a0 n0 c0, .slice a1 n1 c1) (by simp)) (S_7.out.fr 0 0 rfl rfl rfl)).mono ?_
               rintro e wf2 ⟨vf2, uf2, rfl, ho, hb⟩
               obtain ⟨Af2, nf2, cf2, rfl⟩ := (ho.at_ 0 rfl).shape3
               obtain ⟨Bf2, mf2, df2, rfl⟩ := (ho.at_ 1 rfl).shape3
               have S_8 := Lib.hid (S_7.out.rows ho hb)
               clear S_7 ho hb
               refine hK.out _ _ (⟨S_8.out.cell 0 0 rfl rfl, S_8.out.cell 0 1 rfl rfl, S_8.out.cell 0 2 rfl rfl, S_8.out.cell 0 3 rfl rfl, S_8.out.cell 0 4 rfl rfl, S_8.out.cell 0 5 rfl rfl, S_8.out.cell 0 6 rfl rfl, S_8.out.cell 0 7 rfl rfl, S_8.out.cell 0 8 rfl rfl, S_8.out.cell 0 9 rfl rfl, (S_8.out.below.cell (p := ⟨g2, o2 + q * 6, none⟩) hg2).trans x_0, (S_8.out.below.cell (p := ⟨g2, o2 + q * 6 + 1, none⟩) hg2).trans x_1, (S_8.out.below.cell (p := ⟨g2, o2 + q * 6 + 2, none⟩) hg2).trans x_2, (S_8.out.below.cell (p := ⟨g2, o2 + q * 6 + 3, none⟩) hg2).trans x_3, (S_8.out.below.cell (p := ⟨g2, o2 + q * 6 + 4, none⟩) hg2).trans x_4, (S_8.out.below.cell (p := ⟨g2, o2 + q * 6 + 5, none⟩) hg2).trans x_5⟩) (fun hHeld13 => ?_)
               clear hK K
               try simp only [pm, s0, sS]
               refine wpAnyH_ready (rs := [14]) (by kernel_rfl) (by simp) ?_
               refine AllReadyH.cons (o := ⟨some 43, .call { callee := .value (.func 55), args := #[.tmp 30, .tmp 42], argTypes := #[32, 32] }, 32, "l08_star.go:81", #[⟨1, .data⟩, ⟨13, .data⟩, ⟨13, .chain⟩], none⟩) rfl (fun K hK => ?_) AllReadyH.nil
               go_simp
               go_at_call 55
               refine (plus_f X (ZP.mul (GP.add ZQ)) (.slice Ax nx cx) (.slice Bx mx dx) (.slice Af2 nf2 cf2) (.slice Bf2 mf2 df2) _ (HX.out ▸ apSum_good _ _ _ _) (good_mul _ _) (S_8.out.fr 3 0 rfl rfl rfl) (S_8.out.fr 0 0 rfl rfl rfl)).mono ?_
               rintro e wf3 ⟨vf3, uf3, rfl, ho, hb⟩
               obtain ⟨Af3, nf3, cf3, rfl⟩ := (ho.at_ 0 rfl).shape3
               obtain ⟨Bf3, mf3, df3, rfl⟩ := (ho.at_ 1 rfl).shape3
               have S_9 := Lib.hid (S_8.out.rows ho hb)
               clear S_8 ho hb
               refine hK.out _ _ (⟨S_9.out.cell 0 0 rfl rfl, S_9.out.cell 0 1 rfl rfl, S_9.out.cell 0 2 rfl rfl, S_9.out.cell 0 3 rfl rfl, S_9.out.cell 0 4 rfl rfl, S_9.out.cell 0 5 rfl rfl, S_9.out.cell 0 6 rfl rfl, S_9.out.cell 0 7 rfl rfl, S_9.out.cell 0 8 rfl rfl, S_9.out.cell 0 9 rfl rfl, (S_9.out.below.cell (p := ⟨g2, o2 + q * 6, none⟩) hg2).trans x_0, (S_9.out.below.cell (p := ⟨g2, o2 + q * 6 + 1, none⟩) hg2).trans x_1, (S_9.out.below.cell (p := ⟨g2, o2 + q * 6 + 2, none⟩) hg2).trans x_2, (S_9.out.below.cell (p := ⟨g2, o2 + q * 6 + 3, none⟩) hg2).trans x_3, (S_9.out.below.cell (p := ⟨g2, o2 + q * 6 + 4, none⟩) hg2).trans x_4, (S_9.out.below.cell (p := ⟨g2, o2 + q * 6 + 5, none⟩) hg2).trans x_5⟩) (fun hHeld14 => ?_)
               clear hK K
               try simp only [pm, s0, sS]
               refine tkH 15 ?_ ⟨some 44, .fieldAddr 50 (.tmp 6) 0, 0, "l08_star.go:81", #[⟨0, .phase⟩, ⟨1, .phase⟩, ⟨2, .phase⟩, ⟨3, .phase⟩, ⟨4, .phase⟩, ⟨5, .phase⟩, ⟨6, .phase⟩, ⟨7, .phase⟩, ⟨8, .phase⟩, ⟨9, .phase⟩, ⟨10, .phase⟩, ⟨11, .phase⟩, ⟨12, .phase⟩, ⟨13, .phase⟩, ⟨14, .phase⟩], none⟩ ?_ ?_
               rotate_left
               · intro w9 hSw; (try dsimp only at hSw); go_simp; try with_reducible rfl
               try simp only [pm, s0, sS]
               refine wpAnyH_ready (rs := [16]) (by kernel_rfl) (by simp) ?_
               refine AllReadyH.cons (o := ⟨none, .store 32 (.tmp 44) (.tmp 43), 0, "l08_star.go:81", #[⟨15, .data⟩, ⟨14, .data⟩, ⟨14, .chain⟩, ⟨0, .phase⟩, ⟨1, .phase⟩, ⟨2, .phase⟩, ⟨3, .phase⟩, ⟨4, .phase⟩, ⟨5, .phase⟩, ⟨6, .phase⟩, ⟨7, .phase⟩, ⟨8, .phase⟩, ⟨9, .phase⟩, ⟨10, .phase⟩, ⟨11, .phase⟩, ⟨12, .phase⟩, ⟨13, .phase⟩, ⟨14, .phase⟩], none⟩) rfl (fun K hK => ?_) AllReadyH.nil
               rw [if_pos (by rfl)]
               refine wp_store_mid _ _ _ rfl _ _ (List.toArray [.bool (X.add (ZP.mul (GP.add ZQ))).s, (.slice Af3 nf3 cf3), (.slice Bf3 mf3 df3)]) rfl rfl (S_9.out.there9 1 0 (n := 3) rfl (by simp)) size_rat9 (all_oneCell_toArray (cs := [.bool (X.add (ZP.mul (GP.add ZQ))).s, (.slice Af3 nf3 cf3), (.slice Bf3 mf3 df3)]) (List.all_eq_true.mp rfl)) ?_
               simp only [Act.put]
               have S_10 := Lib.hid (show St w (wf3.setCells w3.heap.size 0 [.bool (X.add (ZP.mul (GP.add ZQ))).s, (.slice Af3 nf3 cf3), (.slice Bf3 mf3 df3)]) [(wr.heap.size, [.int .i64 (q : Int), .bool ZP.s, (.slice a0 n0 c0), (.slice a1 n1 c1), .bool ZQ.s, (.slice a2 n2 c2), (.slice a3 n3 c3), .bool ZR.s, (.slice a4 n4 c4), (.slice a5 n5 c5)]), (w3.heap.size, [.bool (X.add (ZP.mul (GP.add ZQ))).s, (.slice Af3 nf3 cf3), (.slice Bf3 mf3 df3), .bool Y.s, (.slice Ay ny cy), (.slice By my dy)]), (w.heap.size + 1, [.bool false, .slice none 0 0, .slice none 0 0, .bool false, .slice none 0 0, .slice none 0 0]), (w.heap.size, [.int .i64 N, .bool T.s, t0, t1, (.slice (some ⟨g1, o1, none⟩) n c)])] [[((.slice Af3 nf3 cf3), ints (X.add (ZP.mul (GP.add ZQ))).xs), ((.slice Bf3 mf3 df3), ints (X.add (ZP.mul (GP.add ZQ))).ys)], [((.slice Af2 nf2 cf2), ints (ZP.mul (GP.add ZQ)).xs), ((.slice Bf2 mf2 df2), ints (ZP.mul (GP.add ZQ)).ys)], [((.slice Af1 nf1 cf1), ints (GP.add ZQ).xs), ((.slice Bf1 mf1 df1), ints (GP.add ZQ).ys)], [((.slice Ay ny cy), ints Y.xs), ((.slice By my dy), ints Y.ys)], [((.slice Ax nx cx), ints X.xs), ((.slice Bx mx dx), ints X.ys)]] from S_9.out.seg9 (k := 1) (X := []) (old := [.bool X.s, (.slice Ax nx cx), (.slice Bx mx dx)]) (us := [.bool (X.add (ZP.mul (GP.add ZQ))).s, (.slice Af3 nf3 cf3), (.slice Bf3 mf3 df3)]) (rest := [.bool Y.s, (.slice Ay ny cy), (.slice By my dy)]) (m := 0) rfl rfl rfl)
               clear S_9
               refine hK.out _ _ (⟨S_10.out.cell 0 0 rfl rfl, S_10.out.cell 0 1 rfl rfl, S_10.out.cell 0 2 rfl rfl, S_10.out.cell 0 3 rfl rfl, S_10.out.cell 0 4 rfl rfl, S_10.out.cell 0 5 rfl rfl, S_10.out.cell 0 6 rfl rfl, S_10.out.cell 0 7 rfl rfl, S_10.out.cell 0 8 rfl rfl, S_10.out.cell 0 9 rfl rfl, (S_10.out.below.cell (p := ⟨g2, o2 + q * 6, none⟩) hg2).trans x_0, (S_10.out.below.cell (p := ⟨g2, o2 + q * 6 + 1, none⟩) hg2).trans x_1, (S_10.out.below.cell (p := ⟨g2, o2 + q * 6 + 2, none⟩) hg2).trans x_2, (S_10.out.below.cell (p := ⟨g2, o2 + q * 6 + 3, none⟩) hg2).trans x_3, (S_10.out.below.cell (p := ⟨g2, o2 + q * 6 + 4, none⟩) hg2).trans x_4, (S_10.out.below.cell (p := ⟨g2, o2 + q * 6 + 5, none⟩) hg2).trans x_5⟩) (fun hHeld16 => ?_)
               clear hK K
               try simp only [pm, s0, sS]
               refine wpAnyH_done (by kernel_rfl) ?_ _
               refine NoPanic.normal ?_
               go_wp2_with fail
               go_meet
               refine ⟨Af3, nf3, cf3, Bf3, mf3, df3, ?_⟩
               exact ((S_10.out.drop 2).drop 1)
             refine AllReadyH.cons (o := ⟨some 42, .call { callee := .value (.func 56), args := #[.tmp 32, .tmp 41], argTypes := #[32, 32] }, 32, "l08_star.go:81", #[⟨3, .data⟩, ⟨12, .data⟩, ⟨12, .chain⟩], none⟩) rfl (fun K hK => ?_) ?_
             · go_simp
               go_at_call 56
               refine (times_f ZP (GP.add ZQ) (.slice a0 n0 c0) (.slice a1 n1 c1) (.slice Af1 nf1 cf1) (.slice Bf1 mf1 df1) _ (.inl HN.out.2) (good_add _ _) (HR.out.below S_7.out.below (ZP, .slice a0 n0 c0, .slice a1 n1 c1) (by simp)) (S_7.out.fr 0 0 rfl rfl rfl)).mono ?_
               rintro e wf2 ⟨vf2, uf2, rfl, ho, hb⟩
               obtain ⟨Af2, nf2, cf2, rfl⟩ := (ho.at_ 0 rfl).shape3
               obtain ⟨Bf2, mf2, df2, rfl⟩ := (ho.at_ 1 rfl).shape3
               have S_8 := Lib.hid (S_7.out.rows ho hb)
               clear S_7 ho hb
               refine hK.out _ _ (⟨S_8.out.cell 0 0 rfl rfl, S_8.out.cell 0 1 rfl rfl, S_8.out.cell 0 2 rfl rfl, S_8.out.cell 0 3 rfl rfl, S_8.out.cell 0 4 rfl rfl, S_8.out.cell 0 5 rfl rfl, S_8.out.cell 0 6 rfl rfl, S_8.out.cell 0 7 rfl rfl, S_8.out.cell 0 8 rfl rfl, S_8.out.cell 0 9 rfl rfl, (S_8.out.below.cell (p := ⟨g2, o2 + q * 6, none⟩) hg2).trans x_0, (S_8.out.below.cell (p := ⟨g2, o2 + q * 6 + 1, none⟩) hg2).trans x_1, (S_8.out.below.cell (p := ⟨g2, o2 + q * 6 + 2, none⟩) hg2).trans x_2, (S_8.out.below.cell (p := ⟨g2, o2 + q * 6 + 3, none⟩) hg2).trans x_3, (S_8.out.below.cell (p := ⟨g2, o2 + q * 6 + 4, none⟩) hg2).trans x_4, (S_8.out.below.cell (p := ⟨g2, o2 + q * 6 + 5, none⟩) hg2).trans x_5⟩) (fun hHeld13 => ?_)
               clear hK K
               try simp only [pm, s0, sS]
               refine wpAnyH_ready (rs := [1]) (by kernel_rfl) (by simp) ?_
               refine AllReadyH.cons (o := ⟨some 30, .load 32 (.tmp 29), 32, "l08_star.go:81", #[⟨0, .data⟩], none⟩) rfl (fun K hK => ?_) AllReadyH.nil
               have hl_0 := S_8.out.cell 1 0 rfl rfl
               have hl_1 := S_8.out.cell 1 1 rfl rfl
               have hl_2 := S_8.out.cell 1 2 rfl rfl
               go_simp
               clear hl_0 hl_1 hl_2
               refine hK.out _ _ (⟨S_8.out.cell 0 0 rfl rfl, S_8.out.cell 0 1 rfl rfl, S_8.out.cell 0 2 rfl rfl, S_8.out.cell 0 3 rfl rfl, S_8.out.cell 0 4 rfl rfl, S_8.out.cell 0 5 rfl rfl, S_8.out.cell 0 6 rfl rfl, S_8.out.cell 0 7 rfl rfl, S_8.out.cell 0 8 rfl rfl, S_8.out.cell 0 9 rfl rfl, (S_8.out.below.cell (p := ⟨g2, o2 + q * 6, none⟩) hg2).trans x_0, (S_8.out.below.cell (p := ⟨g2, o2 + q * 6 + 1, none⟩) hg2).trans x_1, (S_8.out.below.cell (p := ⟨g2, o2 + q * 6 + 2, none⟩) hg2).trans x_2, (S_8.out.below.cell (p := ⟨g2, o2 + q * 6 + 3, none⟩) hg2).trans x_3, (S_8.out.below.cell (p := ⟨g2, o2 + q * 6 + 4, none⟩) hg2).trans x_4, (S_8.out.below.cell (p := ⟨g2, o2 + q * 6 + 5, none⟩) hg2).trans x_5⟩) (fun hHeld1 => ?_)
               clear hK K
               try simp only [pm, s0, sS]
               refine wpAnyH_ready (rs := [14]) (by kernel_rfl) (by simp) ?_
               refine AllReadyH.cons (o := ⟨some 43, .call { callee := .value (.func 55), args := #[.tmp 30, .tmp 42], argTypes := #[32, 32] }, 32, "l08_star.go:81", #[⟨1, .data⟩, ⟨13, .data⟩, ⟨13, .chain⟩], none⟩) rfl (fun K hK => ?_) AllReadyH.nil
               go_simp
               go_at_call 55
               refine (plus_f X (ZP.mul (GP.add ZQ)) (.slice Ax nx cx) (.slice Bx mx dx) (.slice Af2 nf2 cf2) (.slice Bf2 mf2 df2) _ (HX.out ▸ apSum_good _ _ _ _) (good_mul _ _) (S_8.out.fr 3 0 rfl rfl rfl) (S_8.out.fr 0 0 rfl rfl rfl)).mono ?_
               rintro e wf3 ⟨vf3, uf3, rfl, ho, hb⟩
               obtain ⟨Af3, nf3, cf3, rfl⟩ := (ho.at_ 0 rfl).shape3
               obtain ⟨Bf3, mf3, df3, rfl⟩ := (ho.at_ 1 rfl).shape3
               have S_9 := Lib.hid (S_8.out.rows ho hb)
               clear S_8 ho hb
               refine hK.out _ _ (⟨S_9.out.cell 0 0 rfl rfl, S_9.out.cell 0 1 rfl rfl, S_9.out.cell 0 2 rfl rfl, S_9.out.cell 0 3 rfl rfl, S_9.out.cell 0 4 rfl rfl, S_9.out.cell 0 5 rfl rfl, S_9.out.cell 0 6 rfl rfl, S_9.out.cell 0 7 rfl rfl, S_9.out.cell 0 8 rfl rfl, S_9.out.cell 0 9 rfl rfl, (S_9.out.below.cell (p := ⟨g2, o2 + q * 6, none⟩) hg2).trans x_0, (S_9.out.below.cell (p := ⟨g2, o2 + q * 6 + 1, none⟩) hg2).trans x_1, (S_9.out.below.cell (p := ⟨g2, o2 + q * 6 + 2, none⟩) hg2).trans x_2, (S_9.out.below.cell (p := ⟨g2, o2 + q * 6 + 3, none⟩) hg2).trans x_3, (S_9.out.below.cell (p := ⟨g2, o2 + q * 6 + 4, none⟩) hg2).trans x_4, (S_9.out.below.cell (p := ⟨g2, o2 + q * 6 + 5, none⟩) hg2).trans x_5⟩) (fun hHeld14 => ?_)
               clear hK K
               try simp only [pm, s0, sS]
               refine tkH 15 ?_ ⟨some 44, .fieldAddr 50 (.tmp 6) 0, 0, "l08_star.go:81", #[⟨0, .phase⟩, ⟨1, .phase⟩, ⟨2, .phase⟩, ⟨3, .phase⟩, ⟨4, .phase⟩, ⟨5, .phase⟩, ⟨6, .phase⟩, ⟨7, .phase⟩, ⟨8, .phase⟩, ⟨9, .phase⟩, ⟨10, .phase⟩, ⟨11, .phase⟩, ⟨12, .phase⟩, ⟨13, .phase⟩, ⟨14, .phase⟩], none⟩ ?_ ?_
               rotate_left
               · intro w9 hSw; (try dsimp only at hSw); go_simp; try with_reducible rfl
               try simp only [pm, s0, sS]
               refine wpAnyH_ready (rs := [16]) (by kernel_rfl) (by simp) ?_
               refine AllReadyH.cons (o := ⟨none, .store 32 (.tmp 44) (.tmp 43), 0, "l08_star.go:81", #[⟨15, .data⟩, ⟨14, .data⟩, ⟨14, .chain⟩, ⟨0, .phase⟩, ⟨1, .phase⟩, ⟨2, .phase⟩, ⟨3, .phase⟩, ⟨4, .phase⟩, ⟨5, .phase⟩, ⟨6, .phase⟩, ⟨7, .phase⟩, ⟨8, .phase⟩, ⟨9, .phase⟩, ⟨10, .phase⟩, ⟨11, .phase⟩, ⟨12, .phase⟩, ⟨13, .phase⟩, ⟨14, .phase⟩], none⟩) rfl (fun K hK => ?_) AllReadyH.nil
               rw [if_pos (by rfl)]
               refine wp_store_mid _ _ _ rfl _ _ (List.toArray [.bool (X.add (ZP.mul (GP.add ZQ))).s, (.slice Af3 nf3 cf3), (.slice Bf3 mf3 df3)]) rfl rfl (S_9.out.there9 1 0 (n := 3) rfl (by simp)) size_rat9 (all_oneCell_toArray (cs := [.bool (X.add (ZP.mul (GP.add ZQ))).s, (.slice Af3 nf3 cf3), (.slice Bf3 mf3 df3)]) (List.all_eq_true.mp rfl)) ?_
               simp only [Act.put]
               have S_10 := Lib.hid (show St w (wf3.setCells w3.heap.size 0 [.bool (X.add (ZP.mul (GP.add ZQ))).s, (.slice Af3 nf3 cf3), (.slice Bf3 mf3 df3)]) [(wr.heap.size, [.int .i64 (q : Int), .bool ZP.s, (.slice a0 n0 c0), (.slice a1 n1 c1), .bool ZQ.s, (.slice a2 n2 c2), (.slice a3 n3 c3), .bool ZR.s, (.slice a4 n4 c4), (.slice a5 n5 c5)]), (w3.heap.size, [.bool (X.add (ZP.mul (GP.add ZQ))).s, (.slice Af3 nf3 cf3), (.slice Bf3 mf3 df3), .bool Y.s, (.slice Ay ny cy), (.slice By my dy)]), (w.heap.size + 1, [.bool false, .slice none 0 0, .slice none 0 0, .bool false, .slice none 0 0, .slice none 0 0]), (w.heap.size, [.int .i64 N, .bool T.s, t0, t1, (.slice (some ⟨g1, o1, none⟩) n c)])] [[((.slice Af3 nf3 cf3), ints (X.add (ZP.mul (GP.add ZQ))).xs), ((.slice Bf3 mf3 df3), ints (X.add (ZP.mul (GP.add ZQ))).ys)], [((.slice Af2 nf2 cf2), ints (ZP.mul (GP.add ZQ)).xs), ((.slice Bf2 mf2 df2), ints (ZP.mul (GP.add ZQ)).ys)], [((.slice Af1 nf1 cf1), ints (GP.add ZQ).xs), ((.slice Bf1 mf1 df1), ints (GP.add ZQ).ys)], [((.slice Ay ny cy), ints Y.xs), ((.slice By my dy), ints Y.ys)], [((.slice Ax nx cx), ints X.xs), ((.slice Bx mx dx), ints X.ys)]] from S_9.out.seg9 (k := 1) (X := []) (old := [.bool X.s, (.slice Ax nx cx), (.slice Bx mx dx)]) (us := [.bool (X.add (ZP.mul (GP.add ZQ))).s, (.slice Af3 nf3 cf3), (.slice Bf3 mf3 df3)]) (rest := [.bool Y.s, (.slice Ay ny cy), (.slice By my dy)]) (m := 0) rfl rfl rfl)
               clear S_9
               refine hK.out _ _ (⟨S_10.out.cell 0 0 rfl rfl, S_10.out.cell 0 1 rfl rfl, S_10.out.cell 0 2 rfl rfl, S_10.out.cell 0 3 rfl rfl, S_10.out.cell 0 4 rfl rfl, S_10.out.cell 0 5 rfl rfl, S_10.out.cell 0 6 rfl rfl, S_10.out.cell 0 7 rfl rfl, S_10.out.cell 0 8 rfl rfl, S_10.out.cell 0 9 rfl rfl, (S_10.out.below.cell (p := ⟨g2, o2 + q * 6, none⟩) hg2).trans x_0, (S_10.out.below.cell (p := ⟨g2, o2 + q * 6 + 1, none⟩) hg2).trans x_1, (S_10.out.below.cell (p := ⟨g2, o2 + q * 6 + 2, none⟩) hg2).trans x_2, (S_10.out.below.cell (p := ⟨g2, o2 + q * 6 + 3, none⟩) hg2).trans x_3, (S_10.out.below.cell (p := ⟨g2, o2 + q * 6 + 4, none⟩) hg2).trans x_4, (S_10.out.below.cell (p := ⟨g2, o2 + q * 6 + 5, none⟩) hg2).trans x_5⟩) (fun hHeld16 => ?_)
               clear hK K
               try simp only [pm, s0, sS]
               refine wpAnyH_done (by kernel_rfl) ?_ _
               refine NoPanic.normal ?_
               go_wp2_with fail
               go_meet
               refine ⟨Af3, nf3, cf3, Bf3, mf3, df3, ?_⟩
               exact ((S_10.out.drop 2).drop 1)
             exact AllReadyH.nil
           exact AllReadyH.nil
         obtain ⟨Af3, nf3, cf3, Bf3, mf3, df3, hst⟩ := hcut
         have S_66 := Lib.hid hst
         clear hst S_6
         obtain ⟨v1, hv1⟩ : ∃ u, wc = u := ⟨_, rfl⟩
         rw [hv1] at S_66 ⊢
         clear hv1
         have hk_p_0_66 := S_66.out.cell 0 0 rfl rfl
         have hk_p_1_66 := S_66.out.cell 0 1 rfl rfl
         have hk_p_2_66 := S_66.out.cell 0 2 rfl rfl
         have hk_p_3_66 := S_66.out.cell 0 3 rfl rfl
         have hk_p_4_66 := S_66.out.cell 0 4 rfl rfl
         have hk_p_5_66 := S_66.out.cell 0 5 rfl rfl
         have hk_p_6_66 := S_66.out.cell 0 6 rfl rfl
         have hk_p_7_66 := S_66.out.cell 0 7 rfl rfl
         have hk_p_8_66 := S_66.out.cell 0 8 rfl rfl
         have hk_p_9_66 := S_66.out.cell 0 9 rfl rfl
         have hk_out_0_66 := S_66.out.cell 1 0 rfl rfl
         have hk_out_1_66 := S_66.out.cell 1 1 rfl rfl
         have hk_out_2_66 := S_66.out.cell 1 2 rfl rfl
         have hk_out_3_66 := S_66.out.cell 1 3 rfl rfl
         have hk_out_4_66 := S_66.out.cell 1 4 rfl rfl
         have hk_out_5_66 := S_66.out.cell 1 5 rfl rfl
         go_upto_region 10 with fail
         clear hk_p_0_66 hk_p_1_66 hk_p_2_66 hk_p_3_66 hk_p_4_66 hk_p_5_66 hk_p_6_66 hk_p_7_66 hk_p_8_66 hk_p_9_66 hk_out_0_66 hk_out_1_66 hk_out_2_66 hk_out_3_66 hk_out_4_66 hk_out_5_66
         refine wp_region_noPanic ?_
         refine wp_region_held_drew (S := (fun w' => w'.cell? ⟨wr.heap.size, 0, none⟩ = some (.int .i64 (q : Int)) ∧ w'.cell? ⟨wr.heap.size, 1, none⟩ = some (.bool ZP.s) ∧ w'.cell? ⟨wr.heap.size, 2, none⟩ = some ((.slice a0 n0 c0)) ∧ w'.cell? ⟨wr.heap.size, 3, none⟩ = some ((.slice a1 n1 c1)) ∧ w'.cell? ⟨wr.heap.size, 4, none⟩ = some (.bool ZQ.s) ∧ w'.cell? ⟨wr.heap.size, 5, none⟩ = some ((.slice a2 n2 c2)) ∧ w'.cell? ⟨wr.heap.size, 6, none⟩ = some ((.slice a3 n3 c3)) ∧ w'.cell? ⟨wr.heap.size, 7, none⟩ = some (.bool ZR.s) ∧ w'.cell? ⟨wr.heap.size, 8, none⟩ = some ((.slice a4 n4 c4)) ∧ w'.cell? ⟨wr.heap.size, 9, none⟩ = some ((.slice a5 n5 c5)) ∧ w'.cell? ⟨g2, o2 + q * 6, none⟩ = some (.bool GP.s) ∧ w'.cell? ⟨g2, o2 + q * 6 + 1, none⟩ = some ((.slice e0 m0 j0)) ∧ w'.cell? ⟨g2, o2 + q * 6 + 2, none⟩ = some ((.slice e1 m1 j1)) ∧ w'.cell? ⟨g2, o2 + q * 6 + 3, none⟩ = some (.bool GQ.s) ∧ w'.cell? ⟨g2, o2 + q * 6 + 4, none⟩ = some ((.slice e2 m2 j2)) ∧ w'.cell? ⟨g2, o2 + q * 6 + 5, none⟩ = some ((.slice e3 m3 j3)))) (by kernel_rfl) ?_ (fun hHeld => ?_)
         · exact ⟨S_66.out.drew.cell 0 0 rfl rfl, S_66.out.drew.cell 0 1 rfl rfl, S_66.out.drew.cell 0 2 rfl rfl, S_66.out.drew.cell 0 3 rfl rfl, S_66.out.drew.cell 0 4 rfl rfl, S_66.out.drew.cell 0 5 rfl rfl, S_66.out.drew.cell 0 6 rfl rfl, S_66.out.drew.cell 0 7 rfl rfl, S_66.out.drew.cell 0 8 rfl rfl, S_66.out.drew.cell 0 9 rfl rfl, (S_66.out.drew.below.cell (p := ⟨g2, o2 + q * 6, none⟩) hg2).trans x_0, (S_66.out.drew.below.cell (p := ⟨g2, o2 + q * 6 + 1, none⟩) hg2).trans x_1, (S_66.out.drew.below.cell (p := ⟨g2, o2 + q * 6 + 2, none⟩) hg2).trans x_2, (S_66.out.drew.below.cell (p := ⟨g2, o2 + q * 6 + 3, none⟩) hg2).trans x_3, (S_66.out.drew.below.cell (p := ⟨g2, o2 + q * 6 + 4, none⟩) hg2).trans x_4, (S_66.out.drew.below.cell (p := ⟨g2, o2 + q * 6 + 5, none⟩) hg2).trans x_5⟩
         refine tkH 0 ?_ ⟨some 45, .fieldAddr 50 (.tmp 6) 1, 0, "l08_star.go:82", #[], none⟩ ?_ ?_
         rotate_left
         · intro w9 hSw; (try dsimp only at hSw); go_simp; try with_reducible rfl
         try simp only [pm, s0, sS]
         refine tkH 2 ?_ ⟨some 47, .fieldAddr 84 (.tmp 8) 1, 0, "l08_star.go:82", #[], none⟩ ?_ ?_
         rotate_left
         · intro w9 hSw; (try dsimp only at hSw); go_simp; try with_reducible rfl
         try simp only [pm, s0, sS]
         refine tkH 3 ?_ ⟨some 48, .load 32 (.tmp 47), 32, "l08_star.go:82", #[⟨2, .data⟩], none⟩ ?_ ?_
         rotate_left
         · intro w9 hSw; (try dsimp only at hSw); go_simp; try with_reducible rfl
         try simp only [pm, s0, sS]
         refine tkH 4 ?_ ⟨some 49, .move (.tmp 1), 57, "l08_star.go:82", #[], none⟩ ?_ ?_
         rotate_left
         · intro w9 hSw; (try dsimp only at hSw); go_simp; try with_reducible rfl
         try simp only [pm, s0, sS]
         refine tkH 5 ?_ ⟨some 50, .fieldAddr 84 (.tmp 8) 0, 0, "l08_star.go:82", #[], none⟩ ?_ ?_
         rotate_left
         · intro w9 hSw; (try dsimp only at hSw); go_simp; try with_reducible rfl
         try simp only [pm, s0, sS]
         refine tkH 6 ?_ ⟨some 51, .load 3 (.tmp 50), 3, "l08_star.go:82", #[⟨5, .data⟩], none⟩ ?_ ?_
         rotate_left
         · intro w9 hSw; (try dsimp only at hSw); go_simp; try with_reducible rfl
         try simp only [pm, s0, sS]
         refine tkH 7 ?_ ⟨some 52, .indexAddr 57 (.tmp 49) (.tmp 51), 0, "l08_star.go:82", #[⟨4, .data⟩, ⟨6, .data⟩], none⟩ ?_ ?_
         rotate_left
         · intro w9 hSw; (try dsimp only at hSw); go_simp; try with_reducible rfl
         try simp only [pm, s0, sS]
         refine tkH 8 ?_ ⟨some 53, .fieldAddr 50 (.tmp 52) 1, 0, "l08_star.go:82", #[⟨7, .data⟩], none⟩ ?_ ?_
         rotate_left
         · intro w9 hSw; (try dsimp only at hSw); go_simp; try with_reducible rfl
         try simp only [pm, s0, sS]
         refine tkH 9 ?_ ⟨some 54, .load 32 (.tmp 53), 32, "l08_star.go:82", #[⟨8, .data⟩], none⟩ ?_ ?_
         rotate_left
         · intro w9 hSw; (try dsimp only at hSw); go_simp; try with_reducible rfl
         try simp only [pm, s0, sS]
         refine tkH 10 ?_ ⟨some 55, .fieldAddr 84 (.tmp 8) 3, 0, "l08_star.go:82", #[], none⟩ ?_ ?_
         rotate_left
         · intro w9 hSw; (try dsimp only at hSw); go_simp; try with_reducible rfl
         try simp only [pm, s0, sS]
         refine tkH 11 ?_ ⟨some 56, .load 32 (.tmp 55), 32, "l08_star.go:82", #[⟨10, .data⟩], none⟩ ?_ ?_
         rotate_left
         · intro w9 hSw; (try dsimp only at hSw); go_simp; try with_reducible rfl
         try simp only [pm, s0, sS]
         refine wpAnyH_ready (rs := [1, 12]) (by kernel_rfl) (by simp) ?_
         refine AllReadyH.cons (o := ⟨some 46, .load 32 (.tmp 45), 32, "l08_star.go:82", #[⟨0, .data⟩], none⟩) rfl (fun K hK => ?_) ?_
         · have hl_0 := S_66.out.drew.cell 1 3 rfl rfl
           have hl_1 := S_66.out.drew.cell 1 4 rfl rfl
           have hl_2 := S_66.out.drew.cell 1 5 rfl rfl
           go_simp
           clear hl_0 hl_1 hl_2
           refine hK.out _ _ (⟨S_66.out.drew.cell 0 0 rfl rfl, S_66.out.drew.cell 0 1 rfl rfl, S_66.out.drew.cell 0 2 rfl rfl, S_66.out.drew.cell 0 3 rfl rfl, S_66.out.drew.cell 0 4 rfl rfl, S_66.out.drew.cell 0 5 rfl rfl, S_66.out.drew.cell 0 6 rfl rfl, S_66.out.drew.cell 0 7 rfl rfl, S_66.out.drew.cell 0 8 rfl rfl, S_66.out.drew.cell 0 9 rfl rfl, (S_66.out.drew.below.cell (p := ⟨g2, o2 + q * 6, none⟩) hg2).trans x_0, (S_66.out.drew.below.cell (p := ⟨g2, o2 + q * 6 + 1, none⟩) hg2).trans x_1, (S_66.out.drew.below.cell (p := ⟨g2, o2 + q * 6 + 2, none⟩) hg2).trans x_2, (S_66.out.drew.below.cell (p := ⟨g2, o2 + q * 6 + 3, none⟩) hg2).trans x_3, (S_66.out.drew.below.cell (p := ⟨g2, o2 + q * 6 + 4, none⟩) hg2).trans x_4, (S_66.out.drew.below.cell (p := ⟨g2, o2 + q * 6 + 5, none⟩) hg2).trans x_5⟩) (fun hHeld1 => ?_)
           clear hK K
           try simp only [pm, s0, sS]
           refine wpAnyH_ready (rs := [12]) (by kernel_rfl) (by simp) ?_
           refine AllReadyH.cons (o := ⟨some 57, .call { callee := .value (.func 57), args := #[.tmp 54, .tmp 56], argTypes := #[32, 32] }, 32, "l08_star.go:82", #[⟨9, .data⟩, ⟨11, .data⟩], none⟩) rfl (fun K hK => ?_) AllReadyH.nil
           go_simp
           go_at_call 57
           refine (ratAdd_i GQ ZR (.slice e2 m2 j2) (.slice e3 m3 j3) (.slice a4 n4 c4) (.slice a5 n5 c5) _ (HRY.out.below S_66.out.drew.below (GQ, .slice e2 m2 j2, .slice e3 m3 j3) (by simp)) (HR.out.below S_66.out.drew.below (ZR, .slice a4 n4 c4, .slice a5 n5 c5) (by simp))).mono ?_
           rintro e wg1 ⟨vg1, ug1, rfl, ho, hb⟩
           obtain ⟨Ag1, ng1, cg1, rfl⟩ := (ho.at_ 0 rfl).shape3
           obtain ⟨Bg1, mg1, dg1, rfl⟩ := (ho.at_ 1 rfl).shape3
           have S_67 := Lib.hid (S_66.out.drew.rows ho hb)
           clear S_66 ho hb
           refine hK.out _ _ (⟨S_67.out.cell 0 0 rfl rfl, S_67.out.cell 0 1 rfl rfl, S_67.out.cell 0 2 rfl rfl, S_67.out.cell 0 3 rfl rfl, S_67.out.cell 0 4 rfl rfl, S_67.out.cell 0 5 rfl rfl, S_67.out.cell 0 6 rfl rfl, S_67.out.cell 0 7 rfl rfl, S_67.out.cell 0 8 rfl rfl, S_67.out.cell 0 9 rfl rfl, (S_67.out.below.cell (p := ⟨g2, o2 + q * 6, none⟩) hg2).trans x_0, (S_67.out.below.cell (p := ⟨g2, o2 + q * 6 + 1, none⟩) hg2).trans x_1, (S_67.out.below.cell (p := ⟨g2, o2 + q * 6 + 2, none⟩) hg2).trans x_2, (S_67.out.below.cell (p := ⟨g2, o2 + q * 6 + 3, none⟩) hg2).trans x_3, (S_67.out.below.cell (p := ⟨g2, o2 + q * 6 + 4, none⟩) hg2).trans x_4, (S_67.out.below.cell (p := ⟨g2, o2 + q * 6 + 5, none⟩) hg2).trans x_5⟩) (fun hHeld12 => ?_)
           clear hK K
           try simp only [pm, s0, sS]
           refine wpAnyH_ready (rs := [13]) (by kernel_rfl) (by simp) ?_
           refine AllReadyH.cons (o := ⟨some 58, .call { callee := .value (.func 56), args := #[.tmp 48, .tmp 57], argTypes := #[32, 32] }, 32, "l08_star.go:82", #[⟨3, .data⟩, ⟨12, .data⟩, ⟨12, .chain⟩], none⟩) rfl (fun K hK => ?_) AllReadyH.nil
           go_simp
           go_at_call 56
           refine (times_f ZP (GQ.add ZR) (.slice a0 n0 c0) (.slice a1 n1 c1) (.slice Ag1 ng1 cg1) (.slice Bg1 mg1 dg1) _ (.inl HN.out.2) (good_add _ _) (HR.out.below S_67.out.below (ZP, .slice a0 n0 c0, .slice a1 n1 c1) (by simp)) (S_67.out.fr 0 0 rfl rfl rfl)).mono ?_
           rintro e wg2 ⟨vg2, ug2, rfl, ho, hb⟩
           obtain ⟨Ag2, ng2, cg2, rfl⟩ := (ho.at_ 0 rfl).shape3
           obtain ⟨Bg2, mg2, dg2, rfl⟩ := (ho.at_ 1 rfl).shape3
           have S_68 := Lib.hid (S_67.out.rows ho hb)
           clear S_67 ho hb
           refine hK.out _ _ (⟨S_68.out.cell 0 0 rfl rfl, S_68.out.cell 0 1 rfl rfl, S_68.out.cell 0 2 rfl rfl, S_68.out.cell 0 3 rfl rfl, S_68.out.cell 0 4 rfl rfl, S_68.out.cell 0 5 rfl rfl, S_68.out.cell 0 6 rfl rfl, S_68.out.cell 0 7 rfl rfl, S_68.out.cell 0 8 rfl rfl, S_68.out.cell 0 9 rfl rfl, (S_68.out.below.cell (p := ⟨g2, o2 + q * 6, none⟩) hg2).trans x_0, (S_68.out.below.cell (p := ⟨g2, o2 + q * 6 + 1, none⟩) hg2).trans x_1, (S_68.out.below.cell (p := ⟨g2, o2 + q * 6 + 2, none⟩) hg2).trans x_2, (S_68.out.below.cell (p := ⟨g2, o2 + q * 6 + 3, none⟩) hg2).trans x_3, (S_68.out.below.cell (p := ⟨g2, o2 + q * 6 + 4, none⟩) hg2).trans x_4, (S_68.out.below.cell (p := ⟨g2, o2 + q * 6 + 5, none⟩) hg2).trans x_5⟩) (fun hHeld13 => ?_)
           clear hK K
           try simp only [pm, s0, sS]
           refine wpAnyH_ready (rs := [14]) (by kernel_rfl) (by simp) ?_
           refine AllReadyH.cons (o := ⟨some 59, .call { callee := .value (.func 55), args := #[.tmp 46, .tmp 58], argTypes := #[32, 32] }, 32, "l08_star.go:82", #[⟨1, .data⟩, ⟨13, .data⟩, ⟨13, .chain⟩], none⟩) rfl (fun K hK => ?_) AllReadyH.nil
           go_simp
           go_at_call 55
           refine (plus_f Y (ZP.mul (GQ.add ZR)) (.slice Ay ny cy) (.slice By my dy) (.slice Ag2 ng2 cg2) (.slice Bg2 mg2 dg2) _ (HY.out ▸ apSum_good _ _ _ _) (good_mul _ _) (S_68.out.fr 3 0 rfl rfl rfl) (S_68.out.fr 0 0 rfl rfl rfl)).mono ?_
           rintro e wg3 ⟨vg3, ug3, rfl, ho, hb⟩
           obtain ⟨Ag3, ng3, cg3, rfl⟩ := (ho.at_ 0 rfl).shape3
           obtain ⟨Bg3, mg3, dg3, rfl⟩ := (ho.at_ 1 rfl).shape3
           have S_69 := Lib.hid (S_68.out.rows ho hb)
           clear S_68 ho hb
           refine hK.out _ _ (⟨S_69.out.cell 0 0 rfl rfl, S_69.out.cell 0 1 rfl rfl, S_69.out.cell 0 2 rfl rfl, S_69.out.cell 0 3 rfl rfl, S_69.out.cell 0 4 rfl rfl, S_69.out.cell 0 5 rfl rfl, S_69.out.cell 0 6 rfl rfl, S_69.out.cell 0 7 rfl rfl, S_69.out.cell 0 8 rfl rfl, S_69.out.cell 0 9 rfl rfl, (S_69.out.below.cell (p := ⟨g2, o2 + q * 6, none⟩) hg2).trans x_0, (S_69.out.below.cell (p := ⟨g2, o2 + q * 6 + 1, none⟩) hg2).trans x_1, (S_69.out.below.cell (p := ⟨g2, o2 + q * 6 + 2, none⟩) hg2).trans x_2, (S_69.out.below.cell (p := ⟨g2, o2 + q * 6 + 3, none⟩) hg2).trans x_3, (S_69.out.below.cell (p := ⟨g2, o2 + q * 6 + 4, none⟩) hg2).trans x_4, (S_69.out.below.cell (p := ⟨g2, o2 + q * 6 + 5, none⟩) hg2).trans x_5⟩) (fun hHeld14 => ?_)
           clear hK K
           try simp only [pm, s0, sS]
           refine tkH 15 ?_ ⟨some 60, .fieldAddr 50 (.tmp 6) 1, 0, "l08_star.go:82", #[⟨0, .phase⟩, ⟨1, .phase⟩, ⟨2, .phase⟩, ⟨3, .phase⟩, ⟨4, .phase⟩, ⟨5, .phase⟩, ⟨6, .phase⟩, ⟨7, .phase⟩, ⟨8, .phase⟩, ⟨9, .phase⟩, ⟨10, .phase⟩, ⟨11, .phase⟩, ⟨12, .phase⟩, ⟨13, .phase⟩, ⟨14, .phase⟩], none⟩ ?_ ?_
           rotate_left
           · intro w9 hSw; (try dsimp only at hSw); go_simp; try with_reducible rfl
           try simp only [pm, s0, sS]
           refine wpAnyH_ready (rs := [16]) (by kernel_rfl) (by simp) ?_
           refine AllReadyH.cons (o := ⟨none, .store 32 (.tmp 60) (.tmp 59), 0, "l08_star.go:82", #[⟨15, .data⟩, ⟨14, .data⟩, ⟨14, .chain⟩, ⟨0, .phase⟩, ⟨1, .phase⟩, ⟨2, .phase⟩, ⟨3, .phase⟩, ⟨4, .phase⟩, ⟨5, .phase⟩, ⟨6, .phase⟩, ⟨7, .phase⟩, ⟨8, .phase⟩, ⟨9, .phase⟩, ⟨10, .phase⟩, ⟨11, .phase⟩, ⟨12, .phase⟩, ⟨13, .phase⟩, ⟨14, .phase⟩], none⟩) rfl (fun K hK => ?_) AllReadyH.nil
           rw [if_pos (by rfl)]
           refine wp_store_mid _ _ _ rfl _ _ (List.toArray [.bool (Y.add (ZP.mul (GQ.add ZR))).s, (.slice Ag3 ng3 cg3), (.slice Bg3 mg3 dg3)]) rfl rfl (S_69.out.there9 1 3 (n := 3) rfl (by simp)) size_rat9 (all_oneCell_toArray (cs := [.bool (Y.add (ZP.mul (GQ.add ZR))).s, (.slice Ag3 ng3 cg3), (.slice Bg3 mg3 dg3)]) (List.all_eq_true.mp rfl)) ?_
           simp only [Act.put]
           have S_70 := Lib.hid (show St w (wg3.setCells w3.heap.size 3 [.bool (Y.add (ZP.mul (GQ.add ZR))).s, (.slice Ag3 ng3 cg3), (.slice Bg3 mg3 dg3)]) [(wr.heap.size, [.int .i64 (q : Int), .bool ZP.s, (.slice a0 n0 c0), (.slice a1 n1 c1), .bool ZQ.s, (.slice a2 n2 c2), (.slice a3 n3 c3), .bool ZR.s, (.slice a4 n4 c4), (.slice a5 n5 c5)]), (w3.heap.size, [.bool (X.add (ZP.mul (GP.add ZQ))).s, (.slice Af3 nf3 cf3), (.slice Bf3 mf3 df3), .bool (Y.add (ZP.mul (GQ.add ZR))).s, (.slice Ag3 ng3 cg3), (.slice Bg3 mg3 dg3)]), (w.heap.size + 1, [.bool false, .slice none 0 0, .slice none 0 0, .bool false, .slice none 0 0, .slice none 0 0]), (w.heap.size, [.int .i64 N, .bool T.s, t0, t1, (.slice (some ⟨g1, o1, none⟩) n c)])] [[((.slice Ag3 ng3 cg3), ints (Y.add (ZP.mul (GQ.add ZR))).xs), ((.slice Bg3 mg3 dg3), ints (Y.add (ZP.mul (GQ.add ZR))).ys)], [((.slice Ag2 ng2 cg2), ints (ZP.mul (GQ.add ZR)).xs), ((.slice Bg2 mg2 dg2), ints (ZP.mul (GQ.add ZR)).ys)], [((.slice Ag1 ng1 cg1), ints (GQ.add ZR).xs), ((.slice Bg1 mg1 dg1), ints (GQ.add ZR).ys)], [((.slice Af3 nf3 cf3), ints (X.add (ZP.mul (GP.add ZQ))).xs), ((.slice Bf3 mf3 df3), ints (X.add (ZP.mul (GP.add ZQ))).ys)], [((.slice Ay ny cy), ints Y.xs), ((.slice By my dy), ints Y.ys)], [((.slice Ax nx cx), ints X.xs), ((.slice Bx mx dx), ints X.ys)]] from S_69.out.seg9 (k := 1) (X := [.bool (X.add (ZP.mul (GP.add ZQ))).s, (.slice Af3 nf3 cf3), (.slice Bf3 mf3 df3)]) (old := [.bool Y.s, (.slice Ay ny cy), (.slice By my dy)]) (us := [.bool (Y.add (ZP.mul (GQ.add ZR))).s, (.slice Ag3 ng3 cg3), (.slice Bg3 mg3 dg3)]) (rest := []) (m := 3) rfl rfl rfl)
           clear S_69
           refine hK.out _ _ (⟨S_70.out.cell 0 0 rfl rfl, S_70.out.cell 0 1 rfl rfl, S_70.out.cell 0 2 rfl rfl, S_70.out.cell 0 3 rfl rfl, S_70.out.cell 0 4 rfl rfl, S_70.out.cell 0 5 rfl rfl, S_70.out.cell 0 6 rfl rfl, S_70.out.cell 0 7 rfl rfl, S_70.out.cell 0 8 rfl rfl, S_70.out.cell 0 9 rfl rfl, (S_70.out.below.cell (p := ⟨g2, o2 + q * 6, none⟩) hg2).trans x_0, (S_70.out.below.cell (p := ⟨g2, o2 + q * 6 + 1, none⟩) hg2).trans x_1, (S_70.out.below.cell (p := ⟨g2, o2 + q * 6 + 2, none⟩) hg2).trans x_2, (S_70.out.below.cell (p := ⟨g2, o2 + q * 6 + 3, none⟩) hg2).trans x_3, (S_70.out.below.cell (p := ⟨g2, o2 + q * 6 + 4, none⟩) hg2).trans x_4, (S_70.out.below.cell (p := ⟨g2, o2 + q * 6 + 5, none⟩) hg2).trans x_5⟩) (fun hHeld16 => ?_)
           clear hK K
           try simp only [pm, s0, sS]
           refine wpAnyH_done (by kernel_rfl) ?_ _
           refine NoPanic.normal ?_
           go_wp2
           have E1 : X.add (ZP.mul (GP.add ZQ)) = apSum paX ptX ((dats zs).take (k + 1)) (dats ps) := by rw [apSum_step HZ.out, HX.out]; show _ = X.add (ZP.mul ((ptX ((dats ps).getD ((q : Int).toNat) ([], []))).add ZQ)); rw [HG.out]; rfl
           have E2 : Y.add (ZP.mul (GQ.add ZR)) = apSum paY ptY ((dats zs).take (k + 1)) (dats ps) := by rw [apSum_step HZ.out, HY.out]; show _ = Y.add (ZP.mul ((ptY ((dats ps).getD ((q : Int).toNat) ([], []))).add ZR)); rw [HG.out]; rfl
           exact ⟨⟨k + 1, _, _, _, _, _, _, by omega, by first | rfl | go_num, HI2.out, E1.symm, E2.symm, ((((S_70.out.drop 5).drop 4).drop 2).drop 1).dropBox 0⟩, by simp [intOf]; omega⟩
         refine AllReadyH.cons (o := ⟨some 57, .call { callee := .value (.func 57), args := #[.tmp 54, .tmp 56], argTypes := #[32, 32] }, 32, "l08_star.go:82", #[⟨9, .data⟩, ⟨11, .data⟩], none⟩) rfl (fun K hK => ?_) ?_
         · go_simp
           go_at_call 57
           refine (ratAdd_i GQ ZR (.slice e2 m2 j2) (.slice e3 m3 j3) (.slice a4 n4 c4) (.slice a5 n5 c5) _ (HRY.out.below S_66.out.drew.below (GQ, .slice e2 m2 j2, .slice e3 m3 j3) (by simp)) (HR.out.below S_66.out.drew.below (ZR, .slice a4 n4 c4, .slice a5 n5 c5) (by simp))).mono ?_
           rintro e wg1 ⟨vg1, ug1, rfl, ho, hb⟩
           obtain ⟨Ag1, ng1, cg1, rfl⟩ := (ho.at_ 0 rfl).shape3
           obtain ⟨Bg1, mg1, dg1, rfl⟩ := (ho.at_ 1 rfl).shape3
           have S_67 := Lib.hid (S_66.out.drew.rows ho hb)
           clear S_66 ho hb
           refine hK.out _ _ (⟨S_67.out.cell 0 0 rfl rfl, S_67.out.cell 0 1 rfl rfl, S_67.out.cell 0 2 rfl rfl, S_67.out.cell 0 3 rfl rfl, S_67.out.cell 0 4 rfl rfl, S_67.out.cell 0 5 rfl rfl, S_67.out.cell 0 6 rfl rfl, S_67.out.cell 0 7 rfl rfl, S_67.out.cell 0 8 rfl rfl, S_67.out.cell 0 9 rfl rfl, (S_67.out.below.cell (p := ⟨g2, o2 + q * 6, none⟩) hg2).trans x_0, (S_67.out.below.cell (p := ⟨g2, o2 + q * 6 + 1, none⟩) hg2).trans x_1, (S_67.out.below.cell (p := ⟨g2, o2 + q * 6 + 2, none⟩) hg2).trans x_2, (S_67.out.below.cell (p := ⟨g2, o2 + q * 6 + 3, none⟩) hg2).trans x_3, (S_67.out.below.cell (p := ⟨g2, o2 + q * 6 + 4, none⟩) hg2).trans x_4, (S_67.out.below.cell (p := ⟨g2, o2 + q * 6 + 5, none⟩) hg2).trans x_5⟩) (fun hHeld12 => ?_)
           clear hK K
           try simp only [pm, s0, sS]
           refine wpAnyH_ready (rs := [1, 13]) (by kernel_rfl) (by simp) ?_
           refine AllReadyH.cons (o := ⟨some 46, .load 32 (.tmp 45), 32, "l08_star.go:82", #[⟨0, .data⟩], none⟩) rfl (fun K hK => ?_) ?_
           · have hl_0 := S_67.out.cell 1 3 rfl rfl
             have hl_1 := S_67.out.cell 1 4 rfl rfl
             have hl_2 := S_67.out.cell 1 5 rfl rfl
             go_simp
             clear hl_0 hl_1 hl_2
             refine hK.out _ _ (⟨S_67.out.cell 0 0 rfl rfl, S_67.out.cell 0 1 rfl rfl, S_67.out.cell 0 2 rfl rfl, S_67.out.cell 0 3 rfl rfl, S_67.out.cell 0 4 rfl rfl, S_67.out.cell 0 5 rfl rfl, S_67.out.cell 0 6 rfl rfl, S_67.out.cell 0 7 rfl rfl, S_67.out.cell 0 8 rfl rfl, S_67.out.cell 0 9 rfl rfl, (S_67.out.below.cell (p := ⟨g2, o2 + q * 6, none⟩) hg2).trans x_0, (S_67.out.below.cell (p := ⟨g2, o2 + q * 6 + 1, none⟩) hg2).trans x_1, (S_67.out.below.cell (p := ⟨g2, o2 + q * 6 + 2, none⟩) hg2).trans x_2, (S_67.out.below.cell (p := ⟨g2, o2 + q * 6 + 3, none⟩) hg2).trans x_3, (S_67.out.below.cell (p := ⟨g2, o2 + q * 6 + 4, none⟩) hg2).trans x_4, (S_67.out.below.cell (p := ⟨g2, o2 + q * 6 + 5, none⟩) hg2).trans x_5⟩) (fun hHeld1 => ?_)
             clear hK K
             try simp only [pm, s0, sS]
             refine wpAnyH_ready (rs := [13]) (by kernel_rfl) (by simp) ?_
             refine AllReadyH.cons (o := ⟨some 58, .call { callee := .value (.func 56), args := #[.tmp 48, .tmp 57], argTypes := #[32, 32] }, 32, "l08_star.go:82", #[⟨3, .data⟩, ⟨12, .data⟩, ⟨12, .chain⟩], none⟩) rfl (fun K hK => ?_) AllReadyH.nil
             go_simp
             go_at_call 56
             refine (times_f ZP (GQ.add ZR) (.slice a0 n0 c0) (.slice a1 n1 c1) (.slice Ag1 ng1 cg1) (.slice Bg1 mg1 dg1) _ (.inl HN.out.2) (good_add _ _) (HR.out.below S_67.out.below (ZP, .slice a0 n0 c0, .slice a1 n1 c1) (by simp)) (S_67.out.fr 0 0 rfl rfl rfl)).mono ?_
             rintro e wg2 ⟨vg2, ug2, rfl, ho, hb⟩
             obtain ⟨Ag2, ng2, cg2, rfl⟩ := (ho.at_ 0 rfl).shape3
             obtain ⟨Bg2, mg2, dg2, rfl⟩ := (ho.at_ 1 rfl).shape3
             have S_68 := Lib.hid (S_67.out.rows ho hb)
             clear S_67 ho hb
             refine hK.out _ _ (⟨S_68.out.cell 0 0 rfl rfl, S_68.out.cell 0 1 rfl rfl, S_68.out.cell 0 2 rfl rfl, S_68.out.cell 0 3 rfl rfl, S_68.out.cell 0 4 rfl rfl, S_68.out.cell 0 5 rfl rfl, S_68.out.cell 0 6 rfl rfl, S_68.out.cell 0 7 rfl rfl, S_68.out.cell 0 8 rfl rfl, S_68.out.cell 0 9 rfl rfl, (S_68.out.below.cell (p := ⟨g2, o2 + q * 6, none⟩) hg2).trans x_0, (S_68.out.below.cell (p := ⟨g2, o2 + q * 6 + 1, none⟩) hg2).trans x_1, (S_68.out.below.cell (p := ⟨g2, o2 + q * 6 + 2, none⟩) hg2).trans x_2, (S_68.out.below.cell (p := ⟨g2, o2 + q * 6 + 3, none⟩) hg2).trans x_3, (S_68.out.below.cell (p := ⟨g2, o2 + q * 6 + 4, none⟩) hg2).trans x_4, (S_68.out.below.cell (p := ⟨g2, o2 + q * 6 + 5, none⟩) hg2).trans x_5⟩) (fun hHeld13 => ?_)
             clear hK K
             try simp only [pm, s0, sS]
             refine wpAnyH_ready (rs := [14]) (by kernel_rfl) (by simp) ?_
             refine AllReadyH.cons (o := ⟨some 59, .call { callee := .value (.func 55), args := #[.tmp 46, .tmp 58], argTypes := #[32, 32] }, 32, "l08_star.go:82", #[⟨1, .data⟩, ⟨13, .data⟩, ⟨13, .chain⟩], none⟩) rfl (fun K hK => ?_) AllReadyH.nil
             go_simp
             go_at_call 55
             refine (plus_f Y (ZP.mul (GQ.add ZR)) (.slice Ay ny cy) (.slice By my dy) (.slice Ag2 ng2 cg2) (.slice Bg2 mg2 dg2) _ (HY.out ▸ apSum_good _ _ _ _) (good_mul _ _) (S_68.out.fr 3 0 rfl rfl rfl) (S_68.out.fr 0 0 rfl rfl rfl)).mono ?_
             rintro e wg3 ⟨vg3, ug3, rfl, ho, hb⟩
             obtain ⟨Ag3, ng3, cg3, rfl⟩ := (ho.at_ 0 rfl).shape3
             obtain ⟨Bg3, mg3, dg3, rfl⟩ := (ho.at_ 1 rfl).shape3
             have S_69 := Lib.hid (S_68.out.rows ho hb)
             clear S_68 ho hb
             refine hK.out _ _ (⟨S_69.out.cell 0 0 rfl rfl, S_69.out.cell 0 1 rfl rfl, S_69.out.cell 0 2 rfl rfl, S_69.out.cell 0 3 rfl rfl, S_69.out.cell 0 4 rfl rfl, S_69.out.cell 0 5 rfl rfl, S_69.out.cell 0 6 rfl rfl, S_69.out.cell 0 7 rfl rfl, S_69.out.cell 0 8 rfl rfl, S_69.out.cell 0 9 rfl rfl, (S_69.out.below.cell (p := ⟨g2, o2 + q * 6, none⟩) hg2).trans x_0, (S_69.out.below.cell (p := ⟨g2, o2 + q * 6 + 1, none⟩) hg2).trans x_1, (S_69.out.below.cell (p := ⟨g2, o2 + q * 6 + 2, none⟩) hg2).trans x_2, (S_69.out.below.cell (p := ⟨g2, o2 + q * 6 + 3, none⟩) hg2).trans x_3, (S_69.out.below.cell (p := ⟨g2, o2 + q * 6 + 4, none⟩) hg2).trans x_4, (S_69.out.below.cell (p := ⟨g2, o2 + q * 6 + 5, none⟩) hg2).trans x_5⟩) (fun hHeld14 => ?_)
             clear hK K
             try simp only [pm, s0, sS]
             refine tkH 15 ?_ ⟨some 60, .fieldAddr 50 (.tmp 6) 1, 0, "l08_star.go:82", #[⟨0, .phase⟩, ⟨1, .phase⟩, ⟨2, .phase⟩, ⟨3, .phase⟩, ⟨4, .phase⟩, ⟨5, .phase⟩, ⟨6, .phase⟩, ⟨7, .phase⟩, ⟨8, .phase⟩, ⟨9, .phase⟩, ⟨10, .phase⟩, ⟨11, .phase⟩, ⟨12, .phase⟩, ⟨13, .phase⟩, ⟨14, .phase⟩], none⟩ ?_ ?_
             rotate_left
             · intro w9 hSw; (try dsimp only at hSw); go_simp; try with_reducible rfl
             try simp only [pm, s0, sS]
             refine wpAnyH_ready (rs := [16]) (by kernel_rfl) (by simp) ?_
             refine AllReadyH.cons (o := ⟨none, .store 32 (.tmp 60) (.tmp 59), 0, "l08_star.go:82", #[⟨15, .data⟩, ⟨14, .data⟩, ⟨14, .chain⟩, ⟨0, .phase⟩, ⟨1, .phase⟩, ⟨2, .phase⟩, ⟨3, .phase⟩, ⟨4, .phase⟩, ⟨5, .phase⟩, ⟨6, .phase⟩, ⟨7, .phase⟩, ⟨8, .phase⟩, ⟨9, .phase⟩, ⟨10, .phase⟩, ⟨11, .phase⟩, ⟨12, .phase⟩, ⟨13, .phase⟩, ⟨14, .phase⟩], none⟩) rfl (fun K hK => ?_) AllReadyH.nil
             rw [if_pos (by rfl)]
             refine wp_store_mid _ _ _ rfl _ _ (List.toArray [.bool (Y.add (ZP.mul (GQ.add ZR))).s, (.slice Ag3 ng3 cg3), (.slice Bg3 mg3 dg3)]) rfl rfl (S_69.out.there9 1 3 (n := 3) rfl (by simp)) size_rat9 (all_oneCell_toArray (cs := [.bool (Y.add (ZP.mul (GQ.add ZR))).s, (.slice Ag3 ng3 cg3), (.slice Bg3 mg3 dg3)]) (List.all_eq_true.mp rfl)) ?_
             simp only [Act.put]
             have S_70 := Lib.hid (show St w (wg3.setCells w3.heap.size 3 [.bool (Y.add (ZP.mul (GQ.add ZR))).s, (.slice Ag3 ng3 cg3), (.slice Bg3 mg3 dg3)]) [(wr.heap.size, [.int .i64 (q : Int), .bool ZP.s, (.slice a0 n0 c0), (.slice a1 n1 c1), .bool ZQ.s, (.slice a2 n2 c2), (.slice a3 n3 c3), .bool ZR.s, (.slice a4 n4 c4), (.slice a5 n5 c5)]), (w3.heap.size, [.bool (X.add (ZP.mul (GP.add ZQ))).s, (.slice Af3 nf3 cf3), (.slice Bf3 mf3 df3), .bool (Y.add (ZP.mul (GQ.add ZR))).s, (.slice Ag3 ng3 cg3), (.slice Bg3 mg3 dg3)]), (w.heap.size + 1, [.bool false, .slice none 0 0, .slice none 0 0, .bool false, .slice none 0 0, .slice none 0 0]), (w.heap.size, [.int .i64 N, .bool T.s, t0, t1, (.slice (some ⟨g1, o1, none⟩) n c)])] [[((.slice Ag3 ng3 cg3), ints (Y.add (ZP.mul (GQ.add ZR))).xs), ((.slice Bg3 mg3 dg3), ints (Y.add (ZP.mul (GQ.add ZR))).ys)], [((.slice Ag2 ng2 cg2), ints (ZP.mul (GQ.add ZR)).xs), ((.slice Bg2 mg2 dg2), ints (ZP.mul (GQ.add ZR)).ys)], [((.slice Ag1 ng1 cg1), ints (GQ.add ZR).xs), ((.slice Bg1 mg1 dg1), ints (GQ.add ZR).ys)], [((.slice Af3 nf3 cf3), ints (X.add (ZP.mul (GP.add ZQ))).xs), ((.slice Bf3 mf3 df3), ints (X.add (ZP.mul (GP.add ZQ))).ys)], [((.slice Ay ny cy), ints Y.xs), ((.slice By my dy), ints Y.ys)], [((.slice Ax nx cx), ints X.xs), ((.slice Bx mx dx), ints X.ys)]] from S_69.out.seg9 (k := 1) (X := [.bool (X.add (ZP.mul (GP.add ZQ))).s, (.slice Af3 nf3 cf3), (.slice Bf3 mf3 df3)]) (old := [.bool Y.s, (.slice Ay ny cy), (.slice By my dy)]) (us := [.bool (Y.add (ZP.mul (GQ.add ZR))).s, (.slice Ag3 ng3 cg3), (.slice Bg3 mg3 dg3)]) (rest := []) (m := 3) rfl rfl rfl)
             clear S_69
             refine hK.out _ _ (⟨S_70.out.cell 0 0 rfl rfl, S_70.out.cell 0 1 rfl rfl, S_70.out.cell 0 2 rfl rfl, S_70.out.cell 0 3 rfl rfl, S_70.out.cell 0 4 rfl rfl, S_70.out.cell 0 5 rfl rfl, S_70.out.cell 0 6 rfl rfl, S_70.out.cell 0 7 rfl rfl, S_70.out.cell 0 8 rfl rfl, S_70.out.cell 0 9 rfl rfl, (S_70.out.below.cell (p := ⟨g2, o2 + q * 6, none⟩) hg2).trans x_0, (S_70.out.below.cell (p := ⟨g2, o2 + q * 6 + 1, none⟩) hg2).trans x_1, (S_70.out.below.cell (p := ⟨g2, o2 + q * 6 + 2, none⟩) hg2).trans x_2, (S_70.out.below.cell (p := ⟨g2, o2 + q * 6 + 3, none⟩) hg2).trans x_3, (S_70.out.below.cell (p := ⟨g2, o2 + q * 6 + 4, none⟩) hg2).trans x_4, (S_70.out.below.cell (p := ⟨g2, o2 + q * 6 + 5, none⟩) hg2).trans x_5⟩) (fun hHeld16 => ?_)
             clear hK K
             try simp only [pm, s0, sS]
             refine wpAnyH_done (by kernel_rfl) ?_ _
             refine NoPanic.normal ?_
             go_wp2
             have E1 : X.add (ZP.mul (GP.add ZQ)) = apSum paX ptX ((dats zs).take (k + 1)) (dats ps) := by rw [apSum_step HZ.out, HX.out]; show _ = X.add (ZP.mul ((ptX ((dats ps).getD ((q : Int).toNat) ([], []))).add ZQ)); rw [HG.out]; rfl
             have E2 : Y.add (ZP.mul (GQ.add ZR)) = apSum paY ptY ((dats zs).take (k + 1)) (dats ps) := by rw [apSum_step HZ.out, HY.out]; show _ = Y.add (ZP.mul ((ptY ((dats ps).getD ((q : Int).toNat) ([], []))).add ZR)); rw [HG.out]; rfl
             exact ⟨⟨k + 1, _, _, _, _, _, _, by omega, by first | rfl | go_num, HI2.out, E1.symm, E2.symm, ((((S_70.out.drop 5).drop 4).drop 2).drop 1).dropBox 0⟩, by simp [intOf]; omega⟩
           refine AllReadyH.cons (o := ⟨some 58, .call { callee := .value (.func 56), args := #[.tmp 48, .tmp 57], argTypes := #[32, 32] }, 32, "l08_star.go:82", #[⟨3, .data⟩, ⟨12, .data⟩, ⟨12, .chain⟩], none⟩) rfl (fun K hK => ?_) ?_
           · go_simp
             go_at_call 56
             refine (times_f ZP (GQ.add ZR) (.slice a0 n0 c0) (.slice a1 n1 c1) (.slice Ag1 ng1 cg1) (.slice Bg1 mg1 dg1) _ (.inl HN.out.2) (good_add _ _) (HR.out.below S_67.out.below (ZP, .slice a0 n0 c0, .slice a1 n1 c1) (by simp)) (S_67.out.fr 0 0 rfl rfl rfl)).mono ?_
             rintro e wg2 ⟨vg2, ug2, rfl, ho, hb⟩
             obtain ⟨Ag2, ng2, cg2, rfl⟩ := (ho.at_ 0 rfl).shape3
             obtain ⟨Bg2, mg2, dg2, rfl⟩ := (ho.at_ 1 rfl).shape3
             have S_68 := Lib.hid (S_67.out.rows ho hb)
             clear S_67 ho hb
             refine hK.out _ _ (⟨S_68.out.cell 0 0 rfl rfl, S_68.out.cell 0 1 rfl rfl, S_68.out.cell 0 2 rfl rfl, S_68.out.cell 0 3 rfl rfl, S_68.out.cell 0 4 rfl rfl, S_68.out.cell 0 5 rfl rfl, S_68.out.cell 0 6 rfl rfl, S_68.out.cell 0 7 rfl rfl, S_68.out.cell 0 8 rfl rfl, S_68.out.cell 0 9 rfl rfl, (S_68.out.below.cell (p := ⟨g2, o2 + q * 6, none⟩) hg2).trans x_0, (S_68.out.below.cell (p := ⟨g2, o2 + q * 6 + 1, none⟩) hg2).trans x_1, (S_68.out.below.cell (p := ⟨g2, o2 + q * 6 + 2, none⟩) hg2).trans x_2, (S_68.out.below.cell (p := ⟨g2, o2 + q * 6 + 3, none⟩) hg2).trans x_3, (S_68.out.below.cell (p := ⟨g2, o2 + q * 6 + 4, none⟩) hg2).trans x_4, (S_68.out.below.cell (p := ⟨g2, o2 + q * 6 + 5, none⟩) hg2).trans x_5⟩) (fun hHeld13 => ?_)
             clear hK K
             try simp only [pm, s0, sS]
             refine wpAnyH_ready (rs := [1]) (by kernel_rfl) (by simp) ?_
             refine AllReadyH.cons (o := ⟨some 46, .load 32 (.tmp 45), 32, "l08_star.go:82", #[⟨0, .data⟩], none⟩) rfl (fun K hK => ?_) AllReadyH.nil
             have hl_0 := S_68.out.cell 1 3 rfl rfl
             have hl_1 := S_68.out.cell 1 4 rfl rfl
             have hl_2 := S_68.out.cell 1 5 rfl rfl
             go_simp
             clear hl_0 hl_1 hl_2
             refine hK.out _ _ (⟨S_68.out.cell 0 0 rfl rfl, S_68.out.cell 0 1 rfl rfl, S_68.out.cell 0 2 rfl rfl, S_68.out.cell 0 3 rfl rfl, S_68.out.cell 0 4 rfl rfl, S_68.out.cell 0 5 rfl rfl, S_68.out.cell 0 6 rfl rfl, S_68.out.cell 0 7 rfl rfl, S_68.out.cell 0 8 rfl rfl, S_68.out.cell 0 9 rfl rfl, (S_68.out.below.cell (p := ⟨g2, o2 + q * 6, none⟩) hg2).trans x_0, (S_68.out.below.cell (p := ⟨g2, o2 + q * 6 + 1, none⟩) hg2).trans x_1, (S_68.out.below.cell (p := ⟨g2, o2 + q * 6 + 2, none⟩) hg2).trans x_2, (S_68.out.below.cell (p := ⟨g2, o2 + q * 6 + 3, none⟩) hg2).trans x_3, (S_68.out.below.cell (p := ⟨g2, o2 + q * 6 + 4, none⟩) hg2).trans x_4, (S_68.out.below.cell (p := ⟨g2, o2 + q * 6 + 5, none⟩) hg2).trans x_5⟩) (fun hHeld1 => ?_)
             clear hK K
             try simp only [pm, s0, sS]
             refine wpAnyH_ready (rs := [14]) (by kernel_rfl) (by simp) ?_
             refine AllReadyH.cons (o := ⟨some 59, .call { callee := .value (.func 55), args := #[.tmp 46, .tmp 58], argTypes := #[32, 32] }, 32, "l08_star.go:82", #[⟨1, .data⟩, ⟨13, .data⟩, ⟨13, .chain⟩], none⟩) rfl (fun K hK => ?_) AllReadyH.nil
             go_simp
             go_at_call 55
             refine (plus_f Y (ZP.mul (GQ.add ZR)) (.slice Ay ny cy) (.slice By my dy) (.slice Ag2 ng2 cg2) (.slice Bg2 mg2 dg2) _ (HY.out ▸ apSum_good _ _ _ _) (good_mul _ _) (S_68.out.fr 3 0 rfl rfl rfl) (S_68.out.fr 0 0 rfl rfl rfl)).mono ?_
             rintro e wg3 ⟨vg3, ug3, rfl, ho, hb⟩
             obtain ⟨Ag3, ng3, cg3, rfl⟩ := (ho.at_ 0 rfl).shape3
             obtain ⟨Bg3, mg3, dg3, rfl⟩ := (ho.at_ 1 rfl).shape3
             have S_69 := Lib.hid (S_68.out.rows ho hb)
             clear S_68 ho hb
             refine hK.out _ _ (⟨S_69.out.cell 0 0 rfl rfl, S_69.out.cell 0 1 rfl rfl, S_69.out.cell 0 2 rfl rfl, S_69.out.cell 0 3 rfl rfl, S_69.out.cell 0 4 rfl rfl, S_69.out.cell 0 5 rfl rfl, S_69.out.cell 0 6 rfl rfl, S_69.out.cell 0 7 rfl rfl, S_69.out.cell 0 8 rfl rfl, S_69.out.cell 0 9 rfl rfl, (S_69.out.below.cell (p := ⟨g2, o2 + q * 6, none⟩) hg2).trans x_0, (S_69.out.below.cell (p := ⟨g2, o2 + q * 6 + 1, none⟩) hg2).trans x_1, (S_69.out.below.cell (p := ⟨g2, o2 + q * 6 + 2, none⟩) hg2).trans x_2, (S_69.out.below.cell (p := ⟨g2, o2 + q * 6 + 3, none⟩) hg2).trans x_3, (S_69.out.below.cell (p := ⟨g2, o2 + q * 6 + 4, none⟩) hg2).trans x_4, (S_69.out.below.cell (p := ⟨g2, o2 + q * 6 + 5, none⟩) hg2).trans x_5⟩) (fun hHeld14 => ?_)
             clear hK K
             try simp only [pm, s0, sS]
             refine tkH 15 ?_ ⟨some 60, .fieldAddr 50 (.tmp 6) 1, 0, "l08_star.go:82", #[⟨0, .phase⟩, ⟨1, .phase⟩, ⟨2, .phase⟩, ⟨3, .phase⟩, ⟨4, .phase⟩, ⟨5, .phase⟩, ⟨6, .phase⟩, ⟨7, .phase⟩, ⟨8, .phase⟩, ⟨9, .phase⟩, ⟨10, .phase⟩, ⟨11, .phase⟩, ⟨12, .phase⟩, ⟨13, .phase⟩, ⟨14, .phase⟩], none⟩ ?_ ?_
             rotate_left
             · intro w9 hSw; (try dsimp only at hSw); go_simp; try with_reducible rfl
             try simp only [pm, s0, sS]
             refine wpAnyH_ready (rs := [16]) (by kernel_rfl) (by simp) ?_
             refine AllReadyH.cons (o := ⟨none, .store 32 (.tmp 60) (.tmp 59), 0, "l08_star.go:82", #[⟨15, .data⟩, ⟨14, .data⟩, ⟨14, .chain⟩, ⟨0, .phase⟩, ⟨1, .phase⟩, ⟨2, .phase⟩, ⟨3, .phase⟩, ⟨4, .phase⟩, ⟨5, .phase⟩, ⟨6, .phase⟩, ⟨7, .phase⟩, ⟨8, .phase⟩, ⟨9, .phase⟩, ⟨10, .phase⟩, ⟨11, .phase⟩, ⟨12, .phase⟩, ⟨13, .phase⟩, ⟨14, .phase⟩], none⟩) rfl (fun K hK => ?_) AllReadyH.nil
             rw [if_pos (by rfl)]
             refine wp_store_mid _ _ _ rfl _ _ (List.toArray [.bool (Y.add (ZP.mul (GQ.add ZR))).s, (.slice Ag3 ng3 cg3), (.slice Bg3 mg3 dg3)]) rfl rfl (S_69.out.there9 1 3 (n := 3) rfl (by simp)) size_rat9 (all_oneCell_toArray (cs := [.bool (Y.add (ZP.mul (GQ.add ZR))).s, (.slice Ag3 ng3 cg3), (.slice Bg3 mg3 dg3)]) (List.all_eq_true.mp rfl)) ?_
             simp only [Act.put]
             have S_70 := Lib.hid (show St w (wg3.setCells w3.heap.size 3 [.bool (Y.add (ZP.mul (GQ.add ZR))).s, (.slice Ag3 ng3 cg3), (.slice Bg3 mg3 dg3)]) [(wr.heap.size, [.int .i64 (q : Int), .bool ZP.s, (.slice a0 n0 c0), (.slice a1 n1 c1), .bool ZQ.s, (.slice a2 n2 c2), (.slice a3 n3 c3), .bool ZR.s, (.slice a4 n4 c4), (.slice a5 n5 c5)]), (w3.heap.size, [.bool (X.add (ZP.mul (GP.add ZQ))).s, (.slice Af3 nf3 cf3), (.slice Bf3 mf3 df3), .bool (Y.add (ZP.mul (GQ.add ZR))).s, (.slice Ag3 ng3 cg3), (.slice Bg3 mg3 dg3)]), (w.heap.size + 1, [.bool false, .slice none 0 0, .slice none 0 0, .bool false, .slice none 0 0, .slice none 0 0]), (w.heap.size, [.int .i64 N, .bool T.s, t0, t1, (.slice (some ⟨g1, o1, none⟩) n c)])] [[((.slice Ag3 ng3 cg3), ints (Y.add (ZP.mul (GQ.add ZR))).xs), ((.slice Bg3 mg3 dg3), ints (Y.add (ZP.mul (GQ.add ZR))).ys)], [((.slice Ag2 ng2 cg2), ints (ZP.mul (GQ.add ZR)).xs), ((.slice Bg2 mg2 dg2), ints (ZP.mul (GQ.add ZR)).ys)], [((.slice Ag1 ng1 cg1), ints (GQ.add ZR).xs), ((.slice Bg1 mg1 dg1), ints (GQ.add ZR).ys)], [((.slice Af3 nf3 cf3), ints (X.add (ZP.mul (GP.add ZQ))).xs), ((.slice Bf3 mf3 df3), ints (X.add (ZP.mul (GP.add ZQ))).ys)], [((.slice Ay ny cy), ints Y.xs), ((.slice By my dy), ints Y.ys)], [((.slice Ax nx cx), ints X.xs), ((.slice Bx mx dx), ints X.ys)]] from S_69.out.seg9 (k := 1) (X := [.bool (X.add (ZP.mul (GP.add ZQ))).s, (.slice Af3 nf3 cf3), (.slice Bf3 mf3 df3)]) (old := [.bool Y.s, (.slice Ay ny cy), (.slice By my dy)]) (us := [.bool (Y.add (ZP.mul (GQ.add ZR))).s, (.slice Ag3 ng3 cg3), (.slice Bg3 mg3 dg3)]) (rest := []) (m := 3) rfl rfl rfl)
             clear S_69
             refine hK.out _ _ (⟨S_70.out.cell 0 0 rfl rfl, S_70.out.cell 0 1 rfl rfl, S_70.out.cell 0 2 rfl rfl, S_70.out.cell 0 3 rfl rfl, S_70.out.cell 0 4 rfl rfl, S_70.out.cell 0 5 rfl rfl, S_70.out.cell 0 6 rfl rfl, S_70.out.cell 0 7 rfl rfl, S_70.out.cell 0 8 rfl rfl, S_70.out.cell 0 9 rfl rfl, (S_70.out.below.cell (p := ⟨g2, o2 + q * 6, none⟩) hg2).trans x_0, (S_70.out.below.cell (p := ⟨g2, o2 + q * 6 + 1, none⟩) hg2).trans x_1, (S_70.out.below.cell (p := ⟨g2, o2 + q * 6 + 2, none⟩) hg2).trans x_2, (S_70.out.below.cell (p := ⟨g2, o2 + q * 6 + 3, none⟩) hg2).trans x_3, (S_70.out.below.cell (p := ⟨g2, o2 + q * 6 + 4, none⟩) hg2).trans x_4, (S_70.out.below.cell (p := ⟨g2, o2 + q * 6 + 5, none⟩) hg2).trans x_5⟩) (fun hHeld16 => ?_)
             clear hK K
             try simp only [pm, s0, sS]
             refine wpAnyH_done (by kernel_rfl) ?_ _
             refine NoPanic.normal ?_
             go_wp2
             have E1 : X.add (ZP.mul (GP.add ZQ)) = apSum paX ptX ((dats zs).take (k + 1)) (dats ps) := by rw [apSum_step HZ.out, HX.out]; show _ = X.add (ZP.mul ((ptX ((dats ps).getD ((q : Int).toNat) ([], []))).add ZQ)); rw [HG.out]; rfl
             have E2 : Y.add (ZP.mul (GQ.add ZR)) = apSum paY ptY ((dats zs).take (k + 1)) (dats ps) := by rw [apSum_step HZ.out, HY.out]; show _ = Y.add (ZP.mul ((ptY ((dats ps).getD ((q : Int).toNat) ([], []))).add ZR)); rw [HG.out]; rfl
             exact ⟨⟨k + 1, _, _, _, _, _, _, by omega, by first | rfl | go_num, HI2.out, E1.symm, E2.symm, ((((S_70.out.drop 5).drop 4).drop 2).drop 1).dropBox 0⟩, by simp [intOf]; omega⟩
           exact AllReadyH.nil
         exact AllReadyH.nil
       · have HNO := Lib.hid (show ok = false by rw [← HOK.out, apIn_bad HZ.out (show ¬ ((q : Int) < (m : Int)) from h1)]; rfl)
         have h1b : (m : Int) ≤ (q : Int) := by omega
         clear hk_c_0_6 hk_c_1_6 hk_c_2_6 hk_c_3_6 hk_c_4_6 hk_p_0_6 hk_p_1_6 hk_p_2_6 hk_p_3_6 hk_p_4_6 hk_p_5_6 hk_p_6_6 hk_p_7_6 hk_p_8_6 hk_p_9_6 hk_out_0_6 hk_out_1_6 hk_out_2_6 hk_out_3_6 hk_out_4_6 hk_out_5_6 hk_ret_0_6 hk_ret_1_6 hk_ret_2_6 hk_ret_3_6 hk_ret_4_6 hk_ret_5_6
         have hk_ret_0_66 := S_6.out.cell 2 0 rfl rfl
         have hk_ret_0_66f := S_6.out.froz 2 0 rfl rfl
         have hk_ret_1_66 := S_6.out.cell 2 1 rfl rfl
         have hk_ret_1_66f := S_6.out.froz 2 1 rfl rfl
         have hk_ret_2_66 := S_6.out.cell 2 2 rfl rfl
         have hk_ret_2_66f := S_6.out.froz 2 2 rfl rfl
         have hk_ret_3_66 := S_6.out.cell 2 3 rfl rfl
         have hk_ret_3_66f := S_6.out.froz 2 3 rfl rfl
         have hk_ret_4_66 := S_6.out.cell 2 4 rfl rfl
         have hk_ret_4_66f := S_6.out.froz 2 4 rfl rfl
         have hk_ret_5_66 := S_6.out.cell 2 5 rfl rfl
         have hk_ret_5_66f := S_6.out.froz 2 5 rfl rfl
         go_wp2
         have SR := Lib.hid (S_6.out.setAll 2 [.bool false, .slice none 0 0, .slice none 0 0, .bool false, .slice none 0 0, .slice none 0 0] rfl rfl)
         have hr0 := S_6.out.cell 2 0 rfl rfl
         have hr1 := S_6.out.cell 2 1 rfl rfl
         have hr2 := S_6.out.cell 2 2 rfl rfl
         have hr3 := S_6.out.cell 2 3 rfl rfl
         have hr4 := S_6.out.cell 2 4 rfl rfl
         have hr5 := S_6.out.cell 2 5 rfl rfl
         exact bodyPost_ret (v := .tuple #[.agg #[.bool false, .slice none 0 0, .slice none 0 0, .bool false, .slice none 0 0, .slice none 0 0], .bool false]) (by simp [results, Tryz.results20, go_sem, hr0, hr1, hr2, hr3, hr4, hr5]) rfl (OwnAP.no HNO.out SR.out)
     · obtain rfl : k = n := by omega
       have hl : (dats zs).take k = dats zs := List.take_of_length_le (by rw [dats_len, HL.out]; exact Nat.le_refl _)
       obtain rfl : XX = X := by rw [← HX.out, hl]; exact HXX.out.symm
       obtain rfl : YY = Y := by rw [← HY.out, hl]; exact HYY.out.symm
       have HAI := Lib.hid (show apIn (dats zs) m = true from apIn_iff.mpr (by rw [dats_len, HL.out]; exact HI.out))
       clear hl
       clear hk_c_0_5 hk_c_1_5 hk_c_2_5 hk_c_3_5 hk_c_4_5 hk_out_0_5 hk_out_0_5f hk_out_1_5 hk_out_1_5f hk_out_2_5 hk_out_2_5f hk_out_3_5 hk_out_3_5f hk_out_4_5 hk_out_4_5f hk_out_5_5 hk_out_5_5f hk_ret_0_5 hk_ret_0_5f hk_ret_1_5 hk_ret_1_5f hk_ret_2_5 hk_ret_2_5f hk_ret_3_5 hk_ret_3_5f hk_ret_4_5 hk_ret_4_5f hk_ret_5_5 hk_ret_5_5f
       have hk_out_0_66 := R_0.out.cell 0 0 rfl rfl
       have hk_out_1_66 := R_0.out.cell 0 1 rfl rfl
       have hk_out_2_66 := R_0.out.cell 0 2 rfl rfl
       have hk_out_3_66 := R_0.out.cell 0 3 rfl rfl
       have hk_out_4_66 := R_0.out.cell 0 4 rfl rfl
       have hk_out_5_66 := R_0.out.cell 0 5 rfl rfl
       go_wp2_with fail
       refine (areValid_f XX YY (.slice Ax nx cx) (.slice Bx mx dx) (.slice Ay ny cy) (.slice By my dy) _ (R_0.out.fr 1 0 rfl rfl rfl) (R_0.out.fr 0 0 rfl rfl rfl)).mono ?_
       rintro e w9 ⟨rfl, hb⟩
       have S_67 := Lib.hid (R_0.out.call hb)
       clear R_0
       clear hb
       by_cases h5 : (XX.ok && YY.ok) = true
       · have HYS := Lib.hid (show ok = true by rw [← HOK.out, h5, HAI.out]; rfl)
         rw [h5]
         clear h5
         clear hk_out_0_66 hk_out_1_66 hk_out_2_66 hk_out_3_66 hk_out_4_66 hk_out_5_66
         have hk_out_0_67 := S_67.out.cell 0 0 rfl rfl
         have hk_out_1_67 := S_67.out.cell 0 1 rfl rfl
         have hk_out_2_67 := S_67.out.cell 0 2 rfl rfl
         have hk_out_3_67 := S_67.out.cell 0 3 rfl rfl
         have hk_out_4_67 := S_67.out.cell 0 4 rfl rfl
         have hk_out_5_67 := S_67.out.cell 0 5 rfl rfl
         have hk_ret_0_67 := S_67.out.cell 1 0 rfl rfl
         have hk_ret_0_67f := S_67.out.froz 1 0 rfl rfl
         have hk_ret_1_67 := S_67.out.cell 1 1 rfl rfl
         have hk_ret_1_67f := S_67.out.froz 1 1 rfl rfl
         have hk_ret_2_67 := S_67.out.cell 1 2 rfl rfl
         have hk_ret_2_67f := S_67.out.froz 1 2 rfl rfl
         have hk_ret_3_67 := S_67.out.cell 1 3 rfl rfl
         have hk_ret_3_67f := S_67.out.froz 1 3 rfl rfl
         have hk_ret_4_67 := S_67.out.cell 1 4 rfl rfl
         have hk_ret_4_67f := S_67.out.froz 1 4 rfl rfl
         have hk_ret_5_67 := S_67.out.cell 1 5 rfl rfl
         have hk_ret_5_67f := S_67.out.froz 1 5 rfl rfl
         go_wp2
         have SR := Lib.hid (S_67.out.setAll 1 [.bool XX.s, (.slice Ax nx cx), (.slice Bx mx dx), .bool YY.s, (.slice Ay ny cy), (.slice By my dy)] rfl rfl)
         have hr0 := S_67.out.cell 1 0 rfl rfl
         have hr1 := S_67.out.cell 1 1 rfl rfl
         have hr2 := S_67.out.cell 1 2 rfl rfl
         have hr3 := S_67.out.cell 1 3 rfl rfl
         have hr4 := S_67.out.cell 1 4 rfl rfl
         have hr5 := S_67.out.cell 1 5 rfl rfl
         exact bodyPost_ret (v := .tuple #[.agg #[.bool XX.s, (.slice Ax nx cx), (.slice Bx mx dx), .bool YY.s, (.slice Ay ny cy), (.slice By my dy)], .bool true]) (by simp [results, Tryz.results20, go_sem, hr0, hr1, hr2, hr3, hr4, hr5]) rfl (OwnAP.yes HYS.out ⟨_, _, _, _, rfl, SR.out.pick [1, 0] [[((.slice Ax nx cx), ints XX.xs), ((.slice Bx mx dx), ints XX.ys)], [((.slice Ay ny cy), ints YY.xs), ((.slice By my dy), ints YY.ys)]] (by decide) rfl, SR.out.below⟩)
       · rw [Bool.not_eq_true] at h5
         have HNO := Lib.hid (show ok = false by rw [← HOK.out, h5]; simp)
         rw [h5]
         clear h5
         clear hk_out_0_66 hk_out_1_66 hk_out_2_66 hk_out_3_66 hk_out_4_66 hk_out_5_66
         have hk_ret_0_67 := S_67.out.cell 1 0 rfl rfl
         have hk_ret_0_67f := S_67.out.froz 1 0 rfl rfl
         have hk_ret_1_67 := S_67.out.cell 1 1 rfl rfl
         have hk_ret_1_67f := S_67.out.froz 1 1 rfl rfl
         have hk_ret_2_67 := S_67.out.cell 1 2 rfl rfl
         have hk_ret_2_67f := S_67.out.froz 1 2 rfl rfl
         have hk_ret_3_67 := S_67.out.cell 1 3 rfl rfl
         have hk_ret_3_67f := S_67.out.froz 1 3 rfl rfl
         have hk_ret_4_67 := S_67.out.cell 1 4 rfl rfl
         have hk_ret_4_67f := S_67.out.froz 1 4 rfl rfl
         have hk_ret_5_67 := S_67.out.cell 1 5 rfl rfl
         have hk_ret_5_67f := S_67.out.froz 1 5 rfl rfl
         clear hk_ret_0_67 hk_ret_0_67f hk_ret_1_67 hk_ret_1_67f hk_ret_2_67 hk_ret_2_67f hk_ret_3_67 hk_ret_3_67f hk_ret_4_67 hk_ret_4_67f hk_ret_5_67 hk_ret_5_67f
         have hk_ret_0_67 := S_67.out.cell 1 0 rfl rfl
         have hk_ret_0_67f := S_67.out.froz 1 0 rfl rfl
         have hk_ret_1_67 := S_67.out.cell 1 1 rfl rfl
         have hk_ret_1_67f := S_67.out.froz 1 1 rfl rfl
         have hk_ret_2_67 := S_67.out.cell 1 2 rfl rfl
         have hk_ret_2_67f := S_67.out.froz 1 2 rfl rfl
         have hk_ret_3_67 := S_67.out.cell 1 3 rfl rfl
         have hk_ret_3_67f := S_67.out.froz 1 3 rfl rfl
         have hk_ret_4_67 := S_67.out.cell 1 4 rfl rfl
         have hk_ret_4_67f := S_67.out.froz 1 4 rfl rfl
         have hk_ret_5_67 := S_67.out.cell 1 5 rfl rfl
         have hk_ret_5_67f := S_67.out.froz 1 5 rfl rfl
         go_wp2
         have SR := Lib.hid (S_67.out.setAll 1 [.bool false, .slice none 0 0, .slice none 0 0, .bool false, .slice none 0 0, .slice none 0 0] rfl rfl)
         have hr0 := S_67.out.cell 1 0 rfl rfl
         have hr1 := S_67.out.cell 1 1 rfl rfl
         have hr2 := S_67.out.cell 1 2 rfl rfl
         have hr3 := S_67.out.cell 1 3 rfl rfl
         have hr4 := S_67.out.cell 1 4 rfl rfl
         have hr5 := S_67.out.cell 1 5 rfl rfl
         exact bodyPost_ret (v := .tuple #[.agg #[.bool false, .slice none 0 0, .slice none 0 0, .bool false, .slice none 0 0, .slice none 0 0], .bool false]) (by simp [results, Tryz.results20, go_sem, hr0, hr1, hr2, hr3, hr4, hr5]) rfl (OwnAP.no HNO.out SR.out)
 · rw [Bool.not_eq_true] at g1
   subst g1
   have HNO := Lib.hid (show ok = false by rw [← HOK.out]; rfl)
   have hk_ret_0_67 := S_2.out.cell 0 0 rfl rfl
   have hk_ret_0_67f := S_2.out.froz 0 0 rfl rfl
   have hk_ret_1_67 := S_2.out.cell 0 1 rfl rfl
   have hk_ret_1_67f := S_2.out.froz 0 1 rfl rfl
   have hk_ret_2_67 := S_2.out.cell 0 2 rfl rfl
   have hk_ret_2_67f := S_2.out.froz 0 2 rfl rfl
   have hk_ret_3_67 := S_2.out.cell 0 3 rfl rfl
   have hk_ret_3_67f := S_2.out.froz 0 3 rfl rfl
   have hk_ret_4_67 := S_2.out.cell 0 4 rfl rfl
   have hk_ret_4_67f := S_2.out.froz 0 4 rfl rfl
   have hk_ret_5_67 := S_2.out.cell 0 5 rfl rfl
   have hk_ret_5_67f := S_2.out.froz 0 5 rfl rfl
   go_wp2
   have SR := Lib.hid (S_2.out.setAll 0 [.bool false, .slice none 0 0, .slice none 0 0, .bool false, .slice none 0 0, .slice none 0 0] rfl rfl)
   have hr0 := S_2.out.cell 0 0 rfl rfl
   have hr1 := S_2.out.cell 0 1 rfl rfl
   have hr2 := S_2.out.cell 0 2 rfl rfl
   have hr3 := S_2.out.cell 0 3 rfl rfl
   have hr4 := S_2.out.cell 0 4 rfl rfl
   have hr5 := S_2.out.cell 0 5 rfl rfl
   exact bodyPost_ret (v := .tuple #[.agg #[.bool false, .slice none 0 0, .slice none 0 0, .bool false, .slice none 0 0, .slice none 0 0], .bool false]) (by simp [results, Tryz.results20, go_sem, hr0, hr1, hr2, hr3, hr4, hr5]) rfl (OwnAP.no HNO.out SR.out)
end Go.Proofs.YtnmmgjddaidpaaaGreat
