/- TotalEnergy of both sides. Conditions: none. -/
import Derived.Test.YtaboodioabopnaaGreatRecPoint
import Derived.Test.YtaboodioabopnaaGreatIsSet
import Derived.Test.YtaboodioabopnaaGreatHand
namespace Go.Proofs.YtaboodioabopnaaGreat
open Go.RowKit Nt Fr
set_option linter.unusedVariables false

abbrev Dp := List Int × List Fr
def tX (d : Dp) : Fr := d.2.headD Fr.zero
def tY (d : Dp) : Fr := (d.2.drop 1).headD Fr.zero
def tAt (ps : List Dp) (i : Int) : Dp := ps.getD i.toNat ([], [])
/-- One more link. -/
def teStep (ps : List Dp) (s : Fr) (d : Lr) : Fr := s.add (leF d.A d.B d.P d.Q d.R (tX (tAt ps d.A)) (tY (tAt ps d.A)) (tX (tAt ps d.B)) (tY (tAt ps d.B)))
def teSum (zs : List Lr) (ps : List Dp) : Fr := zs.foldl (teStep ps) (Fr.of 0)
def teIn (m : Nat) (d : Lr) : Bool := decide ((0 ≤ d.A ∧ d.A < (m : Int)) ∧ (0 ≤ d.B ∧ d.B < (m : Int)))
def teAll (zs : List Lr) (m : Nat) : Bool := zs.all (teIn m)
def teOk (zs : List Lr) (ps : List Dp) : Bool := teAll zs ps.length && (teSum zs ps).ok
def tk (ok : Bool) (F : Fr) : Fr := if ok = true then F else Fr.zero
def inT (zs : List Lr) (m k : Nat) : Prop := ∀ (i : Nat) (z : Lr), i < k → zs[i]? = some z → teIn m z = true
theorem teAll_iff {zs : List Lr} {m : Nat} : teAll zs m = true ↔ inT zs m zs.length := by
  unfold teAll
  rw [List.all_eq_true]
  constructor
  · intro h i z hi hz; exact h z (List.mem_of_getElem? hz)
  · intro h z hz
    obtain ⟨i, hi⟩ := List.mem_iff_getElem?.mp hz
    exact h i z (List.getElem?_eq_some_iff.mp hi).1 hi
theorem inT_step {zs : List Lr} {m k : Nat} {z : Lr} (h : inT zs m k) (h1 : zs[k]? = some z) (hl : teIn m z = true) : inT zs m (k + 1) := by
  intro i a hi ha
  by_cases e : i = k
  · subst e
    obtain rfl := Option.some.inj (h1.symm.trans ha)
    exact hl
  · exact h i a (by omega) ha
theorem teAll_bad {zs : List Lr} {m k : Nat} {z : Lr} (h1 : zs[k]? = some z) (hl : teIn m z = false) : teAll zs m = false := by
  rw [← Bool.not_eq_true, teAll_iff]
  exact fun h => by have := h k z (List.getElem?_eq_some_iff.mp h1).1 h1; rw [hl] at this; cases this
theorem teSum_step {zs : List Lr} {ps : List Dp} {k : Nat} {z : Lr} (h : zs[k]? = some z) : teSum (zs.take (k + 1)) ps = teStep ps (teSum (zs.take k) ps) z := by
  obtain ⟨hk, e⟩ := List.getElem?_eq_some_iff.mp h
  unfold teSum
  rw [List.take_succ_eq_append_getElem hk, List.foldl_append, e]; rfl
theorem of0_goodT : (Fr.of 0).Good := .inl (by decide +kernel)
theorem teSum_good (zs : List Lr) (ps : List Dp) : (teSum zs ps).Good := by
  have key : ∀ (l : List Lr) (s : Fr), s.Good → (l.foldl (teStep ps) s).Good := by
    intro l
    induction l with
    | nil => exact fun s h => h
    | cons d r ih => exact fun s h => ih _ (good_add _ _)
  exact key zs _ of0_goodT
theorem tk_good {ok : Bool} {F : Fr} (h : F.Good) : (tk ok F).Good := by unfold tk; split; exact h; exact .inr rfl
theorem teIn_iff {m : Nat} {z : Lr} : teIn m z = true ↔ (0 ≤ z.A ∧ z.A < (m : Int)) ∧ (0 ≤ z.B ∧ z.B < (m : Int)) := by simp only [teIn, decide_eq_true_eq]
theorem datt_get {zs : List Rc} {k : Nat} {z : Rc} (h : zs[k]? = some z) : (dats zs)[k]? = some z.dat := by simp [dats, h]
theorem Rc.shapesT {w : World} {z : Rc} (hs : z.sh 0 2) (h : z.ra w) : ∃ P Q a0 n0 c0 a1 n1 c1 a2 n2 c2 a3 n3 c3, z = ⟨[], [(P, .slice a0 n0 c0, .slice a1 n1 c1), (Q, .slice a2 n2 c2, .slice a3 n3 c3)]⟩ := by
  obtain ⟨P, p0, p1, Q, q0, q1, rfl⟩ := Rc.sh02 hs
  obtain ⟨a0, n0, c0, a1, n1, c1, h1, h2⟩ := (h (P, p0, p1) (by simp)).shape
  obtain ⟨a2, n2, c2, a3, n3, c3, h3, h4⟩ := (h (Q, q0, q1) (by simp)).shape
  simp only at h1 h2 h3 h4
  subst h1 h2 h3 h4
  exact ⟨_, _, _, _, _, _, _, _, _, _, _, _, _, _, rfl⟩
theorem RArg.at_t {S ni nf : Nat} {w : World} {A : Option Addr} {n : Nat} {zs : List Rc} (h : RArg S ni nf w A n zs) {k : Nat} (hk : k < n) : ∃ g o z, A = some ⟨g, o, none⟩ ∧ g < w.heap.size ∧ zs[k]? = some z ∧ z.ra w ∧ z.sh ni nf ∧ ∀ (j : Nat) (v : Value), (z.cells)[j]? = some v → w.cell? ⟨g, o + k * S + j, none⟩ = some v := by
  obtain ⟨g, o, z, e, hg, hz, _, hs, hc⟩ := h.row.at_ hk
  exact ⟨g, o, z, e, hg, hz, h.arg z (List.mem_of_getElem? hz), hs, hc⟩
/-- What a function leaves that answers a fraction and a report. -/
def OwnFB (F : Fr) (ok : Bool) (w : World) (en : Ending) (w' : World) : Prop :=
  ∃ x0 x1, en = .returned (.tuple #[.agg #[.bool F.s, x0, x1], .bool ok]) ∧ Owns w' w.heap.size [(x0, ints F.xs), (x1, ints F.ys)] ∧ Below w.heap.size w w'
def OwnTE (ok : Bool) (F : Fr) (w : World) (en : Ending) (w' : World) : Prop := OwnFB (tk ok F) ok w en w'
theorem OwnTE.yes {ok : Bool} {F : Fr} {w w' : World} {e : Ending} (h : ok = true) (hm : OwnFB F true w e w') : OwnTE ok F w e w' := by subst h; exact hm
theorem OwnTE.no {ok : Bool} {F : Fr} {w w' : World} {bs : List (Nat × List Value)} {cs : List Chunk} (h : ok = false) (hs : St w w' bs cs) : OwnTE ok F w (.returned (.tuple #[.agg #[.bool false, .slice none 0 0, .slice none 0 0], .bool false])) w' := by
  subst h; exact ⟨_, _, rfl, Owns.nils _ _ 2, hs.below⟩
theorem size_ratT : (Tryz.prog.info? 37).map (·.size) = some 3 := by kernel_rfl
theorem te_like (ps : List Dp) (m : Nat) : ∀ (ys zs : List Lr) (s : Fr), ys.length = zs.length → (∀ (i : Nat) (y z : Lr), ys[i]? = some y → zs[i]? = some z → y.like z) → ys.foldl (teStep ps) s = zs.foldl (teStep ps) s ∧ ys.all (teIn m) = zs.all (teIn m)
  | [], [], _, _, _ => ⟨rfl, rfl⟩
  | [], _ :: _, _, h, _ => by simp at h
  | _ :: _, [], _, h, _ => by simp at h
  | y :: r, z :: q, s, h, hl => by
    obtain ⟨h1, h2, h3, h4, h5⟩ := hl 0 y z rfl rfl
    have e : teStep ps s y = teStep ps s z := by unfold teStep; rw [h1, h2, h3, h4, h5]
    have e2 : teIn m y = teIn m z := by unfold teIn; rw [h1, h2]
    have ih := te_like ps m r q (teStep ps s z) (by simpa using h) (fun i a b ha hb => hl (i + 1) a b (by simpa using ha) (by simpa using hb))
    exact ⟨by rw [List.foldl_cons, List.foldl_cons, e]; exact ih.1, by rw [List.all_cons, List.all_cons, e2, ih.2]⟩
theorem lensL_likeT {ys zs : List Lr} {n : Nat} (hy : ys.length = n) (hz : zs.length = n) (h : ∀ (i : Nat) (y z : Lr), ys[i]? = some y → zs[i]? = some z → y.like z) : lensL ys = lensL zs := by
  induction ys generalizing zs n with
  | nil => simp at hy; subst hy; rw [List.eq_nil_of_length_eq_zero hz]
  | cons y r ih =>
    cases zs with
    | nil => simp at hy hz; omega
    | cons z s =>
      simp only [List.length_cons] at hy hz
      have h0 := like_rows_len (h 0 y z rfl rfl)
      have := ih (zs := s) (n := r.length) rfl (by omega) (fun i a b ha hb => h (i + 1) a b ha hb)
      simp only [lensL]; omega
theorem teSum_like {ys zs : List Lr} {n : Nat} {ps : List Dp} (hy : ys.length = n) (hz : zs.length = n) (h : ∀ (i : Nat) (y z : Lr), ys[i]? = some y → zs[i]? = some z → y.like z) : teSum ys ps = teSum zs ps := (te_like ps 0 ys zs _ (hy.trans hz.symm) h).1
theorem teOk_like {ys zs : List Lr} {n : Nat} {ps : List Dp} (hy : ys.length = n) (hz : zs.length = n) (h : ∀ (i : Nat) (y z : Lr), ys[i]? = some y → zs[i]? = some z → y.like z) : teOk ys ps = teOk zs ps := by
  unfold teOk teAll; rw [teSum_like hy hz h, (te_like ps ps.length ys zs (Fr.of 0) (hy.trans hz.symm) h).2]
theorem setCells_kitT (b : Nat) (us : List Value) (w : World) (j : Nat) : w.setCells b j us = setCells w b j us := by
  induction us generalizing w j with
  | nil => rfl
  | cons v r ih => exact ih _ _
theorem St.setKitT {w0 w : World} {bs : List (Nat × List Value)} {cs : List Chunk} (h : St w0 w bs cs) (k : Nat) {b : Nat} {vs : List Value} (us : List Value) (e : bs[k]? = some (b, vs)) (hl : us.length = vs.length) : St w0 (w.setCells b 0 us) (bs.set k (b, us)) cs := by rw [setCells_kitT]; exact h.setAll k us e hl
theorem St.thereT {w0 w : World} {bs : List (Nat × List Value)} {cs : List Chunk} (h : St w0 w bs cs) (k : Nat) {b n : Nat} {vs : List Value} (e : bs[k]? = some (b, vs)) (hl : vs.length = n) : w.there b 0 n := fun j hj => by
  have hv : vs[j]? = some (vs[j]'(by omega)) := List.getElem?_eq_getElem (by omega)
  rw [Nat.zero_add]
  exact ⟨by rw [h.cell k j e hv]; rfl, h.froz k j e hv⟩
set_option maxRecDepth 100000 in
set_option maxHeartbeats 4000000 in
theorem l01In_t (n a b : Int) (w : World) : Calls Tryz.prog 32 #[.int .i64 n, .int .i64 a, .int .i64 b] w fun e w' => e = .returned (.bool (decide (a ≤ n ∧ n ≤ b))) ∧ w' = w := by
  by_cases h1 : a ≤ n
  · by_cases h2 : n ≤ b
    · rw [decide_eq_true ⟨h1, h2⟩]
      go_enter Tryz.func32, Tryz.ntmps32
      go_wp2
      all_goals go_ret
      all_goals exact ⟨rfl, rfl⟩
    · rw [decide_eq_false (fun h => h2 h.2)]
      have h5 : decide (n ≤ b) = false := decide_eq_false h2
      go_enter Tryz.func32, Tryz.ntmps32
      go_wp2
      all_goals go_ret
      all_goals first | exact ⟨rfl, rfl⟩ | exact ⟨congrArg (fun b => Ending.returned (.bool b)) h5, rfl⟩
  · rw [decide_eq_false (fun h => h1 h.1)]
    go_enter Tryz.func32, Tryz.ntmps32
    go_wp2
    all_goals go_ret
    all_goals exact ⟨rfl, rfl⟩
set_option maxRecDepth 100000 in
set_option maxHeartbeats 40000000 in
theorem totalEnergy_s (A : Option Addr) (n c : Nat) (zs : List Lr) (D : Option Addr) (m d : Nat) (ps : List Rc) (w : World) (hA : LArg w A n zs) (hD : RArg 6 0 2 w D m ps) (hn : n ≤ 1048576) (hm : m ≤ 1048576) :
    Calls Tryz.prog 12 #[.slice A n c, .slice D m d] w (OwnTE (teOk zs (dats ps)) (teSum zs (dats ps)) w) := by
  have HA := Lib.hid hA
  have HD := Lib.hid hD
  have HL := Lib.hid (show zs.length = n from hA.row.1)
  have HM := Lib.hid (show (dats ps).length = m by rw [dats_len]; exact hD.row.len)
  obtain ⟨ok, hok⟩ : ∃ z, teOk zs (dats ps) = z := ⟨_, rfl⟩
  obtain ⟨XX, hXX⟩ : ∃ z, teSum zs (dats ps) = z := ⟨_, rfl⟩
  rw [hok, hXX]
  have HOK := Lib.hid (show (teAll zs m && XX.ok) = ok by rw [← hok, ← hXX]; unfold teOk; rw [HM.out])
  have HXX := Lib.hid hXX
  clear hA hD hok hXX
  have S_1 := Lib.hid (show St w (w.alloc (.cells #[.bool false, .slice none 0 0, .slice none 0 0] 37)) [(w.heap.size, [.bool false, .slice none 0 0, .slice none 0 0])] [] from ((St.start w).alloc_at (b := w.heap.size) [.bool false, .slice none 0 0, .slice none 0 0] 37 (by first | rfl | simp)))
  go_enter Tryz.func12, Tryz.ntmps12
  go_wp2_with fail
  refine (ratFromInt_s 0 _ (by decide)).mono ?_
  rintro e w2 ⟨v0, u0, rfl, ho, hb⟩
  obtain ⟨A0, n0, c0, rfl⟩ := (ho.at_ 0 rfl).shape3
  obtain ⟨B0, m0, d0, rfl⟩ := (ho.at_ 1 rfl).shape3
  have S_2 := Lib.hid (S_1.out.rows ho hb)
  clear S_1
  clear ho hb
  have S_3 := Lib.hid (S_2.out.alloc [.bool (Fr.of 0).s, (.slice A0 n0 c0), (.slice B0 m0 d0)] 37)
  clear S_2
  have hne_ret_sum := S_3.out.ne 1 0 rfl rfl (by decide)
  have hne_sum_ret := S_3.out.ne 0 1 rfl rfl (by decide)
  have hk_sum_0_3 := S_3.out.cell 0 0 rfl rfl
  have hk_sum_0_3f := S_3.out.froz 0 0 rfl rfl
  have hk_sum_1_3 := S_3.out.cell 0 1 rfl rfl
  have hk_sum_1_3f := S_3.out.froz 0 1 rfl rfl
  have hk_sum_2_3 := S_3.out.cell 0 2 rfl rfl
  have hk_sum_2_3f := S_3.out.froz 0 2 rfl rfl
  have hk_ret_0_3 := S_3.out.cell 1 0 rfl rfl
  have hk_ret_0_3f := S_3.out.froz 1 0 rfl rfl
  have hk_ret_1_3 := S_3.out.cell 1 1 rfl rfl
  have hk_ret_1_3f := S_3.out.froz 1 1 rfl rfl
  have hk_ret_2_3 := S_3.out.cell 1 2 rfl rfl
  have hk_ret_2_3f := S_3.out.froz 1 2 rfl rfl
  go_wp2
  have SX := Lib.hid S_3.out
  go_loopw [12] (fun i wr => ∃ (k : Nat) (X : Fr) (x0 x1 : Value), k ≤ n ∧ i = .int .i64 k ∧ inT zs m k ∧ teSum (zs.take k) (dats ps) = X ∧ St w wr [(w2.heap.size, [.bool X.s, x0, x1]), (w.heap.size, [.bool false, .slice none 0 0, .slice none 0 0])] [[(x0, ints X.xs), (x1, ints X.ys)]]) (fun i _ => n - (intOf i).toNat)
  case atStart => exact ⟨0, Fr.of 0, _, _, Nat.zero_le _, rfl, fun i z hi => by omega, rfl, SX.out⟩
  case round =>
    obtain ⟨k, X, x0, x1, hk, rfl, hin, hX, hst⟩ := hrel
    have HI := Lib.hid hin
    have HX := Lib.hid hX
    obtain ⟨Ax, nx, cx, rfl⟩ := ((hst.own 0 rfl).at_ 0 rfl).shape3
    obtain ⟨Bx, mx, dx, rfl⟩ := ((hst.own 0 rfl).at_ 1 rfl).shape3
    have R_0 := Lib.hid hst
    clear hin hX hst SX
    by_cases hlt : k < n
    · obtain ⟨g1, o1, z, rfl, hg1, hz, hr, hc⟩ := HA.out.at_ hlt
      obtain ⟨ZA, ZB, ZP, ZQ, ZR, a0, n0, c0, a1, n1, c1, a2, n2, c2, a3, n3, c3, a4, n4, c4, a5, n5, c5, rfl⟩ := LArg.shapes hr
      have HZ := Lib.hid hz
      have HR := Lib.hid hr
      have hi0 : (0 : Int) ≤ (k : Int) := by omega
      have hi1 : (k : Int) < (n : Int) := by omega
      have d0 : wr.cell? ⟨g1, o1 + k * 11, none⟩ = some (.int .i64 ZA) := (R_0.out.below.cell (p := ⟨g1, o1 + k * 11, none⟩) hg1).trans (hc 0 _ rfl)
      have d1 : wr.cell? ⟨g1, o1 + k * 11 + 1, none⟩ = some (.int .i64 ZB) := (R_0.out.below.cell (p := ⟨g1, o1 + k * 11 + 1, none⟩) hg1).trans (hc 1 _ rfl)
      have d2 : wr.cell? ⟨g1, o1 + k * 11 + 2, none⟩ = some (.bool ZP.s) := (R_0.out.below.cell (p := ⟨g1, o1 + k * 11 + 2, none⟩) hg1).trans (hc 2 _ rfl)
      have d3 : wr.cell? ⟨g1, o1 + k * 11 + 3, none⟩ = some ((.slice a0 n0 c0)) := (R_0.out.below.cell (p := ⟨g1, o1 + k * 11 + 3, none⟩) hg1).trans (hc 3 _ rfl)
      have d4 : wr.cell? ⟨g1, o1 + k * 11 + 4, none⟩ = some ((.slice a1 n1 c1)) := (R_0.out.below.cell (p := ⟨g1, o1 + k * 11 + 4, none⟩) hg1).trans (hc 4 _ rfl)
      have d5 : wr.cell? ⟨g1, o1 + k * 11 + 5, none⟩ = some (.bool ZQ.s) := (R_0.out.below.cell (p := ⟨g1, o1 + k * 11 + 5, none⟩) hg1).trans (hc 5 _ rfl)
      have d6 : wr.cell? ⟨g1, o1 + k * 11 + 6, none⟩ = some ((.slice a2 n2 c2)) := (R_0.out.below.cell (p := ⟨g1, o1 + k * 11 + 6, none⟩) hg1).trans (hc 6 _ rfl)
      have d7 : wr.cell? ⟨g1, o1 + k * 11 + 7, none⟩ = some ((.slice a3 n3 c3)) := (R_0.out.below.cell (p := ⟨g1, o1 + k * 11 + 7, none⟩) hg1).trans (hc 7 _ rfl)
      have d8 : wr.cell? ⟨g1, o1 + k * 11 + 8, none⟩ = some (.bool ZR.s) := (R_0.out.below.cell (p := ⟨g1, o1 + k * 11 + 8, none⟩) hg1).trans (hc 8 _ rfl)
      have d9 : wr.cell? ⟨g1, o1 + k * 11 + 9, none⟩ = some ((.slice a4 n4 c4)) := (R_0.out.below.cell (p := ⟨g1, o1 + k * 11 + 9, none⟩) hg1).trans (hc 9 _ rfl)
      have d10 : wr.cell? ⟨g1, o1 + k * 11 + 10, none⟩ = some ((.slice a5 n5 c5)) := (R_0.out.below.cell (p := ⟨g1, o1 + k * 11 + 10, none⟩) hg1).trans (hc 10 _ rfl)
      clear hz hc hr
      by_cases hin : (0 ≤ ZA ∧ ZA < (m : Int)) ∧ (0 ≤ ZB ∧ ZB < (m : Int))
      · have HIN := Lib.hid (show teIn m ⟨ZA, ZB, ZP, ZQ, ZR, .slice a0 n0 c0, .slice a1 n1 c1, .slice a2 n2 c2, .slice a3 n3 c3, .slice a4 n4 c4, .slice a5 n5 c5⟩ = true from teIn_iff.mpr hin)
        have HI2 := Lib.hid (inT_step HI.out HZ.out HIN.out)
        obtain ⟨⟨hA0, hA1⟩, hB0, hB1⟩ := hin
        obtain ⟨qa, rfl⟩ : ∃ q : Nat, ZA = q := ⟨ZA.toNat, by omega⟩
        obtain ⟨qb, rfl⟩ : ∃ q : Nat, ZB = q := ⟨ZB.toNat, by omega⟩
        have S_4 := Lib.hid (R_0.out.alloc [.int .i64 (qa : Int), .int .i64 (qb : Int), .bool ZP.s, (.slice a0 n0 c0), (.slice a1 n1 c1), .bool ZQ.s, (.slice a2 n2 c2), (.slice a3 n3 c3), .bool ZR.s, (.slice a4 n4 c4), (.slice a5 n5 c5)] 78)
        clear R_0
        have hne_sum_p := S_4.out.ne 1 0 rfl rfl (by decide)
        have hne_p_sum := S_4.out.ne 0 1 rfl rfl (by decide)
        have hne_ret_p := S_4.out.ne 2 0 rfl rfl (by decide)
        have hne_p_ret := S_4.out.ne 0 2 rfl rfl (by decide)
        clear hk_sum_0_3 hk_sum_0_3f hk_sum_1_3 hk_sum_1_3f hk_sum_2_3 hk_sum_2_3f hk_ret_0_3 hk_ret_0_3f hk_ret_1_3 hk_ret_1_3f hk_ret_2_3 hk_ret_2_3f
        have hk_p_0_4 := S_4.out.cell 0 0 rfl rfl
        have hk_p_1_4 := S_4.out.cell 0 1 rfl rfl
        have hk_p_2_4 := S_4.out.cell 0 2 rfl rfl
        have hk_p_3_4 := S_4.out.cell 0 3 rfl rfl
        have hk_p_4_4 := S_4.out.cell 0 4 rfl rfl
        have hk_p_5_4 := S_4.out.cell 0 5 rfl rfl
        have hk_p_6_4 := S_4.out.cell 0 6 rfl rfl
        have hk_p_7_4 := S_4.out.cell 0 7 rfl rfl
        have hk_p_8_4 := S_4.out.cell 0 8 rfl rfl
        have hk_p_9_4 := S_4.out.cell 0 9 rfl rfl
        have hk_p_10_4 := S_4.out.cell 0 10 rfl rfl
        have hk_sum_0_4 := S_4.out.cell 1 0 rfl rfl
        have hk_sum_1_4 := S_4.out.cell 1 1 rfl rfl
        have hk_sum_2_4 := S_4.out.cell 1 2 rfl rfl
        have hk_ret_0_4 := S_4.out.cell 2 0 rfl rfl
        have hk_ret_1_4 := S_4.out.cell 2 1 rfl rfl
        have hk_ret_2_4 := S_4.out.cell 2 2 rfl rfl
        obtain ⟨g2, o2, y, hDe, hg2, hy, hry, hsy, hcy⟩ := HD.out.at_t (show qa < m by omega)
        obtain ⟨g3, o3, x, hDe2, hg3, hx, hrx, hsx, hcx⟩ := HD.out.at_t (show qb < m by omega)
        obtain rfl := hDe
        obtain ⟨rfl, rfl⟩ : g3 = g2 ∧ o3 = o2 := by simpa [eq_comm] using hDe2
        clear hDe2 hg3
        obtain ⟨GP, GQ, e0, m0, j0, e1, m1, j1, e2, m2, j2, e3, m3, j3, rfl⟩ := Rc.shapesT hsy hry
        obtain ⟨UP, UQ, f0, o0_, h0_, f1, o1_, h1_, f2, o2_, h2_, f3, o3_, h3_, rfl⟩ := Rc.shapesT hsx hrx
        have HRY := Lib.hid hry
        have HRX := Lib.hid hrx
        have HG := Lib.hid (show tAt (dats ps) (qa : Int) = Rc.dat ⟨[], [(GP, .slice e0 m0 j0, .slice e1 m1 j1), (GQ, .slice e2 m2 j2, .slice e3 m3 j3)]⟩ by unfold tAt; rw [Int.toNat_natCast, List.getD_eq_getElem?_getD, datt_get hy]; rfl)
        have HU := Lib.hid (show tAt (dats ps) (qb : Int) = Rc.dat ⟨[], [(UP, .slice f0 o0_ h0_, .slice f1 o1_ h1_), (UQ, .slice f2 o2_ h2_, .slice f3 o3_ h3_)]⟩ by unfold tAt; rw [Int.toNat_natCast, List.getD_eq_getElem?_getD, datt_get hx]; rfl)
        have y_0 : w.cell? ⟨g3, o3 + qa * 6, none⟩ = some (.bool GP.s) := hcy 0 _ rfl
        have y_1 : w.cell? ⟨g3, o3 + qa * 6 + 1, none⟩ = some ((.slice e0 m0 j0)) := hcy 1 _ rfl
        have y_2 : w.cell? ⟨g3, o3 + qa * 6 + 2, none⟩ = some ((.slice e1 m1 j1)) := hcy 2 _ rfl
        have y_3 : w.cell? ⟨g3, o3 + qa * 6 + 3, none⟩ = some (.bool GQ.s) := hcy 3 _ rfl
        have y_4 : w.cell? ⟨g3, o3 + qa * 6 + 4, none⟩ = some ((.slice e2 m2 j2)) := hcy 4 _ rfl
        have y_5 : w.cell? ⟨g3, o3 + qa * 6 + 5, none⟩ = some ((.slice e3 m3 j3)) := hcy 5 _ rfl
        have x_0 : w.cell? ⟨g3, o3 + qb * 6, none⟩ = some (.bool UP.s) := hcx 0 _ rfl
        have x_1 : w.cell? ⟨g3, o3 + qb * 6 + 1, none⟩ = some ((.slice f0 o0_ h0_)) := hcx 1 _ rfl
        have x_2 : w.cell? ⟨g3, o3 + qb * 6 + 2, none⟩ = some ((.slice f1 o1_ h1_)) := hcx 2 _ rfl
        have x_3 : w.cell? ⟨g3, o3 + qb * 6 + 3, none⟩ = some (.bool UQ.s) := hcx 3 _ rfl
        have x_4 : w.cell? ⟨g3, o3 + qb * 6 + 4, none⟩ = some ((.slice f2 o2_ h2_)) := hcx 4 _ rfl
        have x_5 : w.cell? ⟨g3, o3 + qb * 6 + 5, none⟩ = some ((.slice f3 o3_ h3_)) := hcx 5 _ rfl
        clear hy hsy hry hcy hx hsx hrx hcx
        go_wp2_with fail
        refine (l01In_t (qa : Int) 0 ((m : Int) - 1) _).mono ?_
        rintro e w' ⟨rfl, hw⟩
        subst hw
        rw [decide_eq_true (show (0 : Int) ≤ (qa : Int) ∧ (qa : Int) ≤ (m : Int) - 1 by omega)]
        clear hk_p_0_4 hk_p_1_4 hk_p_2_4 hk_p_3_4 hk_p_4_4 hk_p_5_4 hk_p_6_4 hk_p_7_4 hk_p_8_4 hk_p_9_4 hk_p_10_4 hk_sum_0_4 hk_sum_1_4 hk_sum_2_4 hk_ret_0_4 hk_ret_1_4 hk_ret_2_4
        have hk_p_0_4 := S_4.out.cell 0 0 rfl rfl
        have hk_p_1_4 := S_4.out.cell 0 1 rfl rfl
        have hk_p_2_4 := S_4.out.cell 0 2 rfl rfl
        have hk_p_3_4 := S_4.out.cell 0 3 rfl rfl
        have hk_p_4_4 := S_4.out.cell 0 4 rfl rfl
        have hk_p_5_4 := S_4.out.cell 0 5 rfl rfl
        have hk_p_6_4 := S_4.out.cell 0 6 rfl rfl
        have hk_p_7_4 := S_4.out.cell 0 7 rfl rfl
        have hk_p_8_4 := S_4.out.cell 0 8 rfl rfl
        have hk_p_9_4 := S_4.out.cell 0 9 rfl rfl
        have hk_p_10_4 := S_4.out.cell 0 10 rfl rfl
        have hk_sum_0_4 := S_4.out.cell 1 0 rfl rfl
        have hk_sum_1_4 := S_4.out.cell 1 1 rfl rfl
        have hk_sum_2_4 := S_4.out.cell 1 2 rfl rfl
        have hk_ret_0_4 := S_4.out.cell 2 0 rfl rfl
        have hk_ret_1_4 := S_4.out.cell 2 1 rfl rfl
        have hk_ret_2_4 := S_4.out.cell 2 2 rfl rfl
        go_wp2_with fail
        refine (l01In_t (qb : Int) 0 ((m : Int) - 1) _).mono ?_
        rintro e w' ⟨rfl, hw⟩
        subst hw
        rw [decide_eq_true (show (0 : Int) ≤ (qb : Int) ∧ (qb : Int) ≤ (m : Int) - 1 by omega)]
        clear hk_p_0_4 hk_p_1_4 hk_p_2_4 hk_p_3_4 hk_p_4_4 hk_p_5_4 hk_p_6_4 hk_p_7_4 hk_p_8_4 hk_p_9_4 hk_p_10_4 hk_sum_0_4 hk_sum_1_4 hk_sum_2_4 hk_ret_0_4 hk_ret_1_4 hk_ret_2_4
        have hk_p_0_4 := S_4.out.cell 0 0 rfl rfl
        have hk_p_1_4 := S_4.out.cell 0 1 rfl rfl
        have hk_p_2_4 := S_4.out.cell 0 2 rfl rfl
        have hk_p_3_4 := S_4.out.cell 0 3 rfl rfl
        have hk_p_4_4 := S_4.out.cell 0 4 rfl rfl
        have hk_p_5_4 := S_4.out.cell 0 5 rfl rfl
        have hk_p_6_4 := S_4.out.cell 0 6 rfl rfl
        have hk_p_7_4 := S_4.out.cell 0 7 rfl rfl
        have hk_p_8_4 := S_4.out.cell 0 8 rfl rfl
        have hk_p_9_4 := S_4.out.cell 0 9 rfl rfl
        have hk_p_10_4 := S_4.out.cell 0 10 rfl rfl
        have hk_sum_0_4 := S_4.out.cell 1 0 rfl rfl
        have hk_sum_1_4 := S_4.out.cell 1 1 rfl rfl
        have hk_sum_2_4 := S_4.out.cell 1 2 rfl rfl
        have hk_ret_0_4 := S_4.out.cell 2 0 rfl rfl
        have hk_ret_1_4 := S_4.out.cell 2 1 rfl rfl
        have hk_ret_2_4 := S_4.out.cell 2 2 rfl rfl
        go_upto_region 7 with fail
        clear d0 d1 d2 d3 d4 d5 d6 d7 d8 d9 d10
        clear hk_p_0_4 hk_p_1_4 hk_p_2_4 hk_p_3_4 hk_p_4_4 hk_p_5_4 hk_p_6_4 hk_p_7_4 hk_p_8_4 hk_p_9_4 hk_p_10_4 hk_sum_0_4 hk_sum_1_4 hk_sum_2_4 hk_ret_0_4 hk_ret_1_4 hk_ret_2_4
        refine wp_region_noPanic ?_
        refine wp_region_held_drew (S := (fun w' => w'.cell? ⟨wr.heap.size, 0, none⟩ = some (.int .i64 (qa : Int)) ∧ w'.cell? ⟨wr.heap.size, 1, none⟩ = some (.int .i64 (qb : Int)) ∧ w'.cell? ⟨wr.heap.size, 2, none⟩ = some (.bool ZP.s) ∧ w'.cell? ⟨wr.heap.size, 3, none⟩ = some ((.slice a0 n0 c0)) ∧ w'.cell? ⟨wr.heap.size, 4, none⟩ = some ((.slice a1 n1 c1)) ∧ w'.cell? ⟨wr.heap.size, 5, none⟩ = some (.bool ZQ.s) ∧ w'.cell? ⟨wr.heap.size, 6, none⟩ = some ((.slice a2 n2 c2)) ∧ w'.cell? ⟨wr.heap.size, 7, none⟩ = some ((.slice a3 n3 c3)) ∧ w'.cell? ⟨wr.heap.size, 8, none⟩ = some (.bool ZR.s) ∧ w'.cell? ⟨wr.heap.size, 9, none⟩ = some ((.slice a4 n4 c4)) ∧ w'.cell? ⟨wr.heap.size, 10, none⟩ = some ((.slice a5 n5 c5)) ∧ w'.cell? ⟨g3, o3 + qa * 6, none⟩ = some (.bool GP.s) ∧ w'.cell? ⟨g3, o3 + qa * 6 + 1, none⟩ = some ((.slice e0 m0 j0)) ∧ w'.cell? ⟨g3, o3 + qa * 6 + 2, none⟩ = some ((.slice e1 m1 j1)) ∧ w'.cell? ⟨g3, o3 + qa * 6 + 3, none⟩ = some (.bool GQ.s) ∧ w'.cell? ⟨g3, o3 + qa * 6 + 4, none⟩ = some ((.slice e2 m2 j2)) ∧ w'.cell? ⟨g3, o3 + qa * 6 + 5, none⟩ = some ((.slice e3 m3 j3)) ∧ w'.cell? ⟨g3, o3 + qb * 6, none⟩ = some (.bool UP.s) ∧ w'.cell? ⟨g3, o3 + qb * 6 + 1, none⟩ = some ((.slice f0 o0_ h0_)) ∧ w'.cell? ⟨g3, o3 + qb * 6 + 2, none⟩ = some ((.slice f1 o1_ h1_)) ∧ w'.cell? ⟨g3, o3 + qb * 6 + 3, none⟩ = some (.bool UQ.s) ∧ w'.cell? ⟨g3, o3 + qb * 6 + 4, none⟩ = some ((.slice f2 o2_ h2_)) ∧ w'.cell? ⟨g3, o3 + qb * 6 + 5, none⟩ = some ((.slice f3 o3_ h3_)))) (by kernel_rfl) ?_ (fun hHeld => ?_)
        · exact ⟨S_4.out.drew.cell 0 0 rfl rfl, S_4.out.drew.cell 0 1 rfl rfl, S_4.out.drew.cell 0 2 rfl rfl, S_4.out.drew.cell 0 3 rfl rfl, S_4.out.drew.cell 0 4 rfl rfl, S_4.out.drew.cell 0 5 rfl rfl, S_4.out.drew.cell 0 6 rfl rfl, S_4.out.drew.cell 0 7 rfl rfl, S_4.out.drew.cell 0 8 rfl rfl, S_4.out.drew.cell 0 9 rfl rfl, S_4.out.drew.cell 0 10 rfl rfl, (S_4.out.drew.below.cell (p := ⟨g3, o3 + qa * 6, none⟩) hg2).trans y_0, (S_4.out.drew.below.cell (p := ⟨g3, o3 + qa * 6 + 1, none⟩) hg2).trans y_1, (S_4.out.drew.below.cell (p := ⟨g3, o3 + qa * 6 + 2, none⟩) hg2).trans y_2, (S_4.out.drew.below.cell (p := ⟨g3, o3 + qa * 6 + 3, none⟩) hg2).trans y_3, (S_4.out.drew.below.cell (p := ⟨g3, o3 + qa * 6 + 4, none⟩) hg2).trans y_4, (S_4.out.drew.below.cell (p := ⟨g3, o3 + qa * 6 + 5, none⟩) hg2).trans y_5, (S_4.out.drew.below.cell (p := ⟨g3, o3 + qb * 6, none⟩) hg2).trans x_0, (S_4.out.drew.below.cell (p := ⟨g3, o3 + qb * 6 + 1, none⟩) hg2).trans x_1, (S_4.out.drew.below.cell (p := ⟨g3, o3 + qb * 6 + 2, none⟩) hg2).trans x_2, (S_4.out.drew.below.cell (p := ⟨g3, o3 + qb * 6 + 3, none⟩) hg2).trans x_3, (S_4.out.drew.below.cell (p := ⟨g3, o3 + qb * 6 + 4, none⟩) hg2).trans x_4, (S_4.out.drew.below.cell (p := ⟨g3, o3 + qb * 6 + 5, none⟩) hg2).trans x_5⟩
        refine tkH 1 ?_ ⟨some 34, .load 78 (.tmp 8), 78, "l11_batch.go:83", #[], none⟩ ?_ ?_
        rotate_left
        · intro w9 hSw; (try dsimp only at hSw); go_simp; try with_reducible rfl
        try simp only [pm, s0, sS]
        refine tkH 2 ?_ ⟨some 35, .move (.tmp 1), 42, "l11_batch.go:83", #[], none⟩ ?_ ?_
        rotate_left
        · intro w9 hSw; (try dsimp only at hSw); go_simp; try with_reducible rfl
        try simp only [pm, s0, sS]
        refine tkH 3 ?_ ⟨some 36, .fieldAddr 78 (.tmp 8) 0, 0, "l11_batch.go:83", #[], none⟩ ?_ ?_
        rotate_left
        · intro w9 hSw; (try dsimp only at hSw); go_simp; try with_reducible rfl
        try simp only [pm, s0, sS]
        refine tkH 4 ?_ ⟨some 37, .load 3 (.tmp 36), 3, "l11_batch.go:83", #[⟨3, .data⟩], none⟩ ?_ ?_
        rotate_left
        · intro w9 hSw; (try dsimp only at hSw); go_simp; try with_reducible rfl
        try simp only [pm, s0, sS]
        refine tkH 5 ?_ ⟨some 38, .indexAddr 42 (.tmp 35) (.tmp 37), 0, "l11_batch.go:83", #[⟨2, .data⟩, ⟨4, .data⟩], none⟩ ?_ ?_
        rotate_left
        · intro w9 hSw; (try dsimp only at hSw); go_simp; try with_reducible rfl
        try simp only [pm, s0, sS]
        refine tkH 6 ?_ ⟨some 39, .load 83 (.tmp 38), 83, "l11_batch.go:83", #[⟨5, .data⟩], none⟩ ?_ ?_
        rotate_left
        · intro w9 hSw; (try dsimp only at hSw); go_simp; try with_reducible rfl
        try simp only [pm, s0, sS]
        refine tkH 7 ?_ ⟨some 40, .move (.tmp 1), 42, "l11_batch.go:83", #[], none⟩ ?_ ?_
        rotate_left
        · intro w9 hSw; (try dsimp only at hSw); go_simp; try with_reducible rfl
        try simp only [pm, s0, sS]
        refine tkH 8 ?_ ⟨some 41, .fieldAddr 78 (.tmp 8) 1, 0, "l11_batch.go:83", #[], none⟩ ?_ ?_
        rotate_left
        · intro w9 hSw; (try dsimp only at hSw); go_simp; try with_reducible rfl
        try simp only [pm, s0, sS]
        refine tkH 9 ?_ ⟨some 42, .load 3 (.tmp 41), 3, "l11_batch.go:83", #[⟨8, .data⟩], none⟩ ?_ ?_
        rotate_left
        · intro w9 hSw; (try dsimp only at hSw); go_simp; try with_reducible rfl
        try simp only [pm, s0, sS]
        refine tkH 10 ?_ ⟨some 43, .indexAddr 42 (.tmp 40) (.tmp 42), 0, "l11_batch.go:83", #[⟨7, .data⟩, ⟨9, .data⟩], none⟩ ?_ ?_
        rotate_left
        · intro w9 hSw; (try dsimp only at hSw); go_simp; try with_reducible rfl
        try simp only [pm, s0, sS]
        refine tkH 11 ?_ ⟨some 44, .load 83 (.tmp 43), 83, "l11_batch.go:83", #[⟨10, .data⟩], none⟩ ?_ ?_
        rotate_left
        · intro w9 hSw; (try dsimp only at hSw); go_simp; try with_reducible rfl
        try simp only [pm, s0, sS]
        refine wpAnyH_ready (rs := [0, 12]) (by kernel_rfl) (by simp) ?_
        refine AllReadyH.cons (o := ⟨some 33, .load 37 (.tmp 6), 37, "l11_batch.go:83", #[], none⟩) rfl (fun K hK => ?_) ?_
        · have hl_0 := S_4.out.drew.cell 1 0 rfl rfl
          have hl_1 := S_4.out.drew.cell 1 1 rfl rfl
          have hl_2 := S_4.out.drew.cell 1 2 rfl rfl
          go_simp
          clear hl_0 hl_1 hl_2
          refine hK.out _ _ (⟨S_4.out.drew.cell 0 0 rfl rfl, S_4.out.drew.cell 0 1 rfl rfl, S_4.out.drew.cell 0 2 rfl rfl, S_4.out.drew.cell 0 3 rfl rfl, S_4.out.drew.cell 0 4 rfl rfl, S_4.out.drew.cell 0 5 rfl rfl, S_4.out.drew.cell 0 6 rfl rfl, S_4.out.drew.cell 0 7 rfl rfl, S_4.out.drew.cell 0 8 rfl rfl, S_4.out.drew.cell 0 9 rfl rfl, S_4.out.drew.cell 0 10 rfl rfl, (S_4.out.drew.below.cell (p := ⟨g3, o3 + qa * 6, none⟩) hg2).trans y_0, (S_4.out.drew.below.cell (p := ⟨g3, o3 + qa * 6 + 1, none⟩) hg2).trans y_1, (S_4.out.drew.below.cell (p := ⟨g3, o3 + qa * 6 + 2, none⟩) hg2).trans y_2, (S_4.out.drew.below.cell (p := ⟨g3, o3 + qa * 6 + 3, none⟩) hg2).trans y_3, (S_4.out.drew.below.cell (p := ⟨g3, o3 + qa * 6 + 4, none⟩) hg2).trans y_4, (S_4.out.drew.below.cell (p := ⟨g3, o3 + qa * 6 + 5, none⟩) hg2).trans y_5, (S_4.out.drew.below.cell (p := ⟨g3, o3 + qb * 6, none⟩) hg2).trans x_0, (S_4.out.drew.below.cell (p := ⟨g3, o3 + qb * 6 + 1, none⟩) hg2).trans x_1, (S_4.out.drew.below.cell (p := ⟨g3, o3 + qb * 6 + 2, none⟩) hg2).trans x_2, (S_4.out.drew.below.cell (p := ⟨g3, o3 + qb * 6 + 3, none⟩) hg2).trans x_3, (S_4.out.drew.below.cell (p := ⟨g3, o3 + qb * 6 + 4, none⟩) hg2).trans x_4, (S_4.out.drew.below.cell (p := ⟨g3, o3 + qb * 6 + 5, none⟩) hg2).trans x_5⟩) (fun hHeld0 => ?_)
          clear hK K
          try simp only [pm, s0, sS]
          refine wpAnyH_ready (rs := [12]) (by kernel_rfl) (by simp) ?_
          refine AllReadyH.cons (o := ⟨some 45, .call { callee := .value (.func 34), args := #[.tmp 34, .tmp 39, .tmp 44], argTypes := #[78, 83, 83] }, 37, "l11_batch.go:83", #[⟨1, .data⟩, ⟨6, .data⟩, ⟨11, .data⟩], none⟩) rfl (fun K hK => ?_) AllReadyH.nil
          go_simp
          go_at_call 34
          refine (linkEnergy_s (qa : Int) (qb : Int) ZP ZQ ZR (.slice a0 n0 c0) (.slice a1 n1 c1) (.slice a2 n2 c2) (.slice a3 n3 c3) (.slice a4 n4 c4) (.slice a5 n5 c5) GP GQ UP UQ (.slice e0 m0 j0) (.slice e1 m1 j1) (.slice e2 m2 j2) (.slice e3 m3 j3) (.slice f0 o0_ h0_) (.slice f1 o1_ h1_) (.slice f2 o2_ h2_) (.slice f3 o3_ h3_) _ (HR.out.below S_4.out.drew.below) ⟨HRY.out.below S_4.out.drew.below (GP, .slice e0 m0 j0, .slice e1 m1 j1) (by simp), HRY.out.below S_4.out.drew.below (GQ, .slice e2 m2 j2, .slice e3 m3 j3) (by simp)⟩ ⟨HRX.out.below S_4.out.drew.below (UP, .slice f0 o0_ h0_, .slice f1 o1_ h1_) (by simp), HRX.out.below S_4.out.drew.below (UQ, .slice f2 o2_ h2_, .slice f3 o3_ h3_) (by simp)⟩).mono ?_
          rintro e w7 ⟨v7, u7, rfl, ho, hb⟩
          obtain ⟨A7, n7, c7, rfl⟩ := (ho.at_ 0 rfl).shape3
          obtain ⟨B7, m7, d7, rfl⟩ := (ho.at_ 1 rfl).shape3
          have S_5 := Lib.hid (S_4.out.drew.rows ho hb)
          clear S_4 ho hb
          refine hK.out _ _ (⟨S_5.out.cell 0 0 rfl rfl, S_5.out.cell 0 1 rfl rfl, S_5.out.cell 0 2 rfl rfl, S_5.out.cell 0 3 rfl rfl, S_5.out.cell 0 4 rfl rfl, S_5.out.cell 0 5 rfl rfl, S_5.out.cell 0 6 rfl rfl, S_5.out.cell 0 7 rfl rfl, S_5.out.cell 0 8 rfl rfl, S_5.out.cell 0 9 rfl rfl, S_5.out.cell 0 10 rfl rfl, (S_5.out.below.cell (p := ⟨g3, o3 + qa * 6, none⟩) hg2).trans y_0, (S_5.out.below.cell (p := ⟨g3, o3 + qa * 6 + 1, none⟩) hg2).trans y_1, (S_5.out.below.cell (p := ⟨g3, o3 + qa * 6 + 2, none⟩) hg2).trans y_2, (S_5.out.below.cell (p := ⟨g3, o3 + qa * 6 + 3, none⟩) hg2).trans y_3, (S_5.out.below.cell (p := ⟨g3, o3 + qa * 6 + 4, none⟩) hg2).trans y_4, (S_5.out.below.cell (p := ⟨g3, o3 + qa * 6 + 5, none⟩) hg2).trans y_5, (S_5.out.below.cell (p := ⟨g3, o3 + qb * 6, none⟩) hg2).trans x_0, (S_5.out.below.cell (p := ⟨g3, o3 + qb * 6 + 1, none⟩) hg2).trans x_1, (S_5.out.below.cell (p := ⟨g3, o3 + qb * 6 + 2, none⟩) hg2).trans x_2, (S_5.out.below.cell (p := ⟨g3, o3 + qb * 6 + 3, none⟩) hg2).trans x_3, (S_5.out.below.cell (p := ⟨g3, o3 + qb * 6 + 4, none⟩) hg2).trans x_4, (S_5.out.below.cell (p := ⟨g3, o3 + qb * 6 + 5, none⟩) hg2).trans x_5⟩) (fun hHeld12 => ?_)
          clear hK K
          try simp only [pm, s0, sS]
          refine wpAnyH_ready (rs := [13]) (by kernel_rfl) (by simp) ?_
          refine AllReadyH.cons (o := ⟨some 46, .call { callee := .value (.func 33), args := #[.tmp 33, .tmp 45], argTypes := #[37, 37] }, 37, "l11_batch.go:83", #[⟨0, .data⟩, ⟨12, .data⟩, ⟨12, .chain⟩], none⟩) rfl (fun K hK => ?_) AllReadyH.nil
          go_simp
          go_at_call 33
          refine (ratAdd_s X (leF (qa : Int) (qb : Int) ZP ZQ ZR GP GQ UP UQ) (.slice Ax nx cx) (.slice Bx mx dx) (.slice A7 n7 c7) (.slice B7 m7 d7) _ (S_5.out.fr 1 0 rfl rfl rfl) (S_5.out.fr 0 0 rfl rfl rfl)).mono ?_
          rintro e w8 ⟨v8, u8, rfl, ho, hb⟩
          obtain ⟨A8, n8, c8, rfl⟩ := (ho.at_ 0 rfl).shape3
          obtain ⟨B8, m8, d8, rfl⟩ := (ho.at_ 1 rfl).shape3
          have S_6 := Lib.hid (S_5.out.rows ho hb)
          clear S_5 ho hb
          refine hK.out _ _ (⟨S_6.out.cell 0 0 rfl rfl, S_6.out.cell 0 1 rfl rfl, S_6.out.cell 0 2 rfl rfl, S_6.out.cell 0 3 rfl rfl, S_6.out.cell 0 4 rfl rfl, S_6.out.cell 0 5 rfl rfl, S_6.out.cell 0 6 rfl rfl, S_6.out.cell 0 7 rfl rfl, S_6.out.cell 0 8 rfl rfl, S_6.out.cell 0 9 rfl rfl, S_6.out.cell 0 10 rfl rfl, (S_6.out.below.cell (p := ⟨g3, o3 + qa * 6, none⟩) hg2).trans y_0, (S_6.out.below.cell (p := ⟨g3, o3 + qa * 6 + 1, none⟩) hg2).trans y_1, (S_6.out.below.cell (p := ⟨g3, o3 + qa * 6 + 2, none⟩) hg2).trans y_2, (S_6.out.below.cell (p := ⟨g3, o3 + qa * 6 + 3, none⟩) hg2).trans y_3, (S_6.out.below.cell (p := ⟨g3, o3 + qa * 6 + 4, none⟩) hg2).trans y_4, (S_6.out.below.cell (p := ⟨g3, o3 + qa * 6 + 5, none⟩) hg2).trans y_5, (S_6.out.below.cell (p := ⟨g3, o3 + qb * 6, none⟩) hg2).trans x_0, (S_6.out.below.cell (p := ⟨g3, o3 + qb * 6 + 1, none⟩) hg2).trans x_1, (S_6.out.below.cell (p := ⟨g3, o3 + qb * 6 + 2, none⟩) hg2).trans x_2, (S_6.out.below.cell (p := ⟨g3, o3 + qb * 6 + 3, none⟩) hg2).trans x_3, (S_6.out.below.cell (p := ⟨g3, o3 + qb * 6 + 4, none⟩) hg2).trans x_4, (S_6.out.below.cell (p := ⟨g3, o3 + qb * 6 + 5, none⟩) hg2).trans x_5⟩) (fun hHeld13 => ?_)
          clear hK K
          try simp only [pm, s0, sS]
          refine wpAnyH_ready (rs := [14]) (by kernel_rfl) (by simp) ?_
          refine AllReadyH.cons (o := ⟨none, .store 37 (.tmp 6) (.tmp 46), 0, "l11_batch.go:83", #[⟨13, .data⟩, ⟨13, .chain⟩, ⟨0, .phase⟩, ⟨1, .phase⟩, ⟨2, .phase⟩, ⟨3, .phase⟩, ⟨4, .phase⟩, ⟨5, .phase⟩, ⟨6, .phase⟩, ⟨7, .phase⟩, ⟨8, .phase⟩, ⟨9, .phase⟩, ⟨10, .phase⟩, ⟨11, .phase⟩, ⟨12, .phase⟩, ⟨13, .phase⟩], none⟩) rfl (fun K hK => ?_) AllReadyH.nil
          rw [if_pos (by rfl)]
          refine wp_store_mid _ _ _ rfl _ _ (List.toArray [.bool (X.add (leF (qa : Int) (qb : Int) ZP ZQ ZR GP GQ UP UQ)).s, (.slice A8 n8 c8), (.slice B8 m8 d8)]) rfl rfl (S_6.out.thereT 1 rfl rfl) (size_ratT) (all_oneCell_toArray (cs := [.bool (X.add (leF (qa : Int) (qb : Int) ZP ZQ ZR GP GQ UP UQ)).s, (.slice A8 n8 c8), (.slice B8 m8 d8)]) (List.all_eq_true.mp rfl)) ?_
          simp only [Act.put]
          have S_7 := Lib.hid (S_6.out.setKitT 1 [.bool (X.add (leF (qa : Int) (qb : Int) ZP ZQ ZR GP GQ UP UQ)).s, (.slice A8 n8 c8), (.slice B8 m8 d8)] rfl rfl)
          clear S_6
          refine hK.out _ _ (⟨S_7.out.cell 0 0 rfl rfl, S_7.out.cell 0 1 rfl rfl, S_7.out.cell 0 2 rfl rfl, S_7.out.cell 0 3 rfl rfl, S_7.out.cell 0 4 rfl rfl, S_7.out.cell 0 5 rfl rfl, S_7.out.cell 0 6 rfl rfl, S_7.out.cell 0 7 rfl rfl, S_7.out.cell 0 8 rfl rfl, S_7.out.cell 0 9 rfl rfl, S_7.out.cell 0 10 rfl rfl, (S_7.out.below.cell (p := ⟨g3, o3 + qa * 6, none⟩) hg2).trans y_0, (S_7.out.below.cell (p := ⟨g3, o3 + qa * 6 + 1, none⟩) hg2).trans y_1, (S_7.out.below.cell (p := ⟨g3, o3 + qa * 6 + 2, none⟩) hg2).trans y_2, (S_7.out.below.cell (p := ⟨g3, o3 + qa * 6 + 3, none⟩) hg2).trans y_3, (S_7.out.below.cell (p := ⟨g3, o3 + qa * 6 + 4, none⟩) hg2).trans y_4, (S_7.out.below.cell (p := ⟨g3, o3 + qa * 6 + 5, none⟩) hg2).trans y_5, (S_7.out.below.cell (p := ⟨g3, o3 + qb * 6, none⟩) hg2).trans x_0, (S_7.out.below.cell (p := ⟨g3, o3 + qb * 6 + 1, none⟩) hg2).trans x_1, (S_7.out.below.cell (p := ⟨g3, o3 + qb * 6 + 2, none⟩) hg2).trans x_2, (S_7.out.below.cell (p := ⟨g3, o3 + qb * 6 + 3, none⟩) hg2).trans x_3, (S_7.out.below.cell (p := ⟨g3, o3 + qb * 6 + 4, none⟩) hg2).trans x_4, (S_7.out.below.cell (p := ⟨g3, o3 + qb * 6 + 5, none⟩) hg2).trans x_5⟩) (fun hHeld14 => ?_)
          clear hK K
          try simp only [pm, s0, sS]
          refine wpAnyH_done (by kernel_rfl) ?_ _
          refine NoPanic.normal ?_
          go_wp2
          have E1 : X.add (leF (qa : Int) (qb : Int) ZP ZQ ZR GP GQ UP UQ) = teSum (zs.take (k + 1)) (dats ps) := by rw [teSum_step HZ.out, HX.out]; show _ = X.add (leF (qa : Int) (qb : Int) ZP ZQ ZR (tX (tAt (dats ps) (qa : Int))) (tY (tAt (dats ps) (qa : Int))) (tX (tAt (dats ps) (qb : Int))) (tY (tAt (dats ps) (qb : Int)))); rw [HG.out, HU.out]; rfl
          exact ⟨⟨k + 1, _, _, _, by omega, by first | rfl | go_num, HI2.out, E1.symm, ((S_7.out.drop 2).drop 1).dropBox 0⟩, by simp [intOf]; omega⟩
        refine AllReadyH.cons (o := ⟨some 45, .call { callee := .value (.func 34), args := #[.tmp 34, .tmp 39, .tmp 44], argTypes := #[78, 83, 83] }, 37, "l11_batch.go:83", #[⟨1, .data⟩, ⟨6, .data⟩, ⟨11, .data⟩], none⟩) rfl (fun K hK => ?_) ?_
        · go_simp
          go_at_call 34
          refine (linkEnergy_s (qa : Int) (qb : Int) ZP ZQ ZR (.slice a0 n0 c0) (.slice a1 n1 c1) (.slice a2 n2 c2) (.slice a3 n3 c3) (.slice a4 n4 c4) (.slice a5 n5 c5) GP GQ UP UQ (.slice e0 m0 j0) (.slice e1 m1 j1) (.slice e2 m2 j2) (.slice e3 m3 j3) (.slice f0 o0_ h0_) (.slice f1 o1_ h1_) (.slice f2 o2_ h2_) (.slice f3 o3_ h3_) _ (HR.out.below S_4.out.drew.below) ⟨HRY.out.below S_4.out.drew.below (GP, .slice e0 m0 j0, .slice e1 m1 j1) (by simp), HRY.out.below S_4.out.drew.below (GQ, .slice e2 m2 j2, .slice e3 m3 j3) (by simp)⟩ ⟨HRX.out.below S_4.out.drew.below (UP, .slice f0 o0_ h0_, .slice f1 o1_ h1_) (by simp), HRX.out.below S_4.out.drew.below (UQ, .slice f2 o2_ h2_, .slice f3 o3_ h3_) (by simp)⟩).mono ?_
          rintro e w7 ⟨v7, u7, rfl, ho, hb⟩
          obtain ⟨A7, n7, c7, rfl⟩ := (ho.at_ 0 rfl).shape3
          obtain ⟨B7, m7, d7, rfl⟩ := (ho.at_ 1 rfl).shape3
          have S_5 := Lib.hid (S_4.out.drew.rows ho hb)
          clear S_4 ho hb
          refine hK.out _ _ (⟨S_5.out.cell 0 0 rfl rfl, S_5.out.cell 0 1 rfl rfl, S_5.out.cell 0 2 rfl rfl, S_5.out.cell 0 3 rfl rfl, S_5.out.cell 0 4 rfl rfl, S_5.out.cell 0 5 rfl rfl, S_5.out.cell 0 6 rfl rfl, S_5.out.cell 0 7 rfl rfl, S_5.out.cell 0 8 rfl rfl, S_5.out.cell 0 9 rfl rfl, S_5.out.cell 0 10 rfl rfl, (S_5.out.below.cell (p := ⟨g3, o3 + qa * 6, none⟩) hg2).trans y_0, (S_5.out.below.cell (p := ⟨g3, o3 + qa * 6 + 1, none⟩) hg2).trans y_1, (S_5.out.below.cell (p := ⟨g3, o3 + qa * 6 + 2, none⟩) hg2).trans y_2, (S_5.out.below.cell (p := ⟨g3, o3 + qa * 6 + 3, none⟩) hg2).trans y_3, (S_5.out.below.cell (p := ⟨g3, o3 + qa * 6 + 4, none⟩) hg2).trans y_4, (S_5.out.below.cell (p := ⟨g3, o3 + qa * 6 + 5, none⟩) hg2).trans y_5, (S_5.out.below.cell (p := ⟨g3, o3 + qb * 6, none⟩) hg2).trans x_0, (S_5.out.below.cell (p := ⟨g3, o3 + qb * 6 + 1, none⟩) hg2).trans x_1, (S_5.out.below.cell (p := ⟨g3, o3 + qb * 6 + 2, none⟩) hg2).trans x_2, (S_5.out.below.cell (p := ⟨g3, o3 + qb * 6 + 3, none⟩) hg2).trans x_3, (S_5.out.below.cell (p := ⟨g3, o3 + qb * 6 + 4, none⟩) hg2).trans x_4, (S_5.out.below.cell (p := ⟨g3, o3 + qb * 6 + 5, none⟩) hg2).trans x_5⟩) (fun hHeld12 => ?_)
          clear hK K
          try simp only [pm, s0, sS]
          refine wpAnyH_ready (rs := [0]) (by kernel_rfl) (by simp) ?_
          refine AllReadyH.cons (o := ⟨some 33, .load 37 (.tmp 6), 37, "l11_batch.go:83", #[], none⟩) rfl (fun K hK => ?_) AllReadyH.nil
          have hl_0 := S_5.out.cell 1 0 rfl rfl
          have hl_1 := S_5.out.cell 1 1 rfl rfl
          have hl_2 := S_5.out.cell 1 2 rfl rfl
          go_simp
          clear hl_0 hl_1 hl_2
          refine hK.out _ _ (⟨S_5.out.cell 0 0 rfl rfl, S_5.out.cell 0 1 rfl rfl, S_5.out.cell 0 2 rfl rfl, S_5.out.cell 0 3 rfl rfl, S_5.out.cell 0 4 rfl rfl, S_5.out.cell 0 5 rfl rfl, S_5.out.cell 0 6 rfl rfl, S_5.out.cell 0 7 rfl rfl, S_5.out.cell 0 8 rfl rfl, S_5.out.cell 0 9 rfl rfl, S_5.out.cell 0 10 rfl rfl, (S_5.out.below.cell (p := ⟨g3, o3 + qa * 6, none⟩) hg2).trans y_0, (S_5.out.below.cell (p := ⟨g3, o3 + qa * 6 + 1, none⟩) hg2).trans y_1, (S_5.out.below.cell (p := ⟨g3, o3 + qa * 6 + 2, none⟩) hg2).trans y_2, (S_5.out.below.cell (p := ⟨g3, o3 + qa * 6 + 3, none⟩) hg2).trans y_3, (S_5.out.below.cell (p := ⟨g3, o3 + qa * 6 + 4, none⟩) hg2).trans y_4, (S_5.out.below.cell (p := ⟨g3, o3 + qa * 6 + 5, none⟩) hg2).trans y_5, (S_5.out.below.cell (p := ⟨g3, o3 + qb * 6, none⟩) hg2).trans x_0, (S_5.out.below.cell (p := ⟨g3, o3 + qb * 6 + 1, none⟩) hg2).trans x_1, (S_5.out.below.cell (p := ⟨g3, o3 + qb * 6 + 2, none⟩) hg2).trans x_2, (S_5.out.below.cell (p := ⟨g3, o3 + qb * 6 + 3, none⟩) hg2).trans x_3, (S_5.out.below.cell (p := ⟨g3, o3 + qb * 6 + 4, none⟩) hg2).trans x_4, (S_5.out.below.cell (p := ⟨g3, o3 + qb * 6 + 5, none⟩) hg2).trans x_5⟩) (fun hHeld0 => ?_)
          clear hK K
          try simp only [pm, s0, sS]
          refine wpAnyH_ready (rs := [13]) (by kernel_rfl) (by simp) ?_
          refine AllReadyH.cons (o := ⟨some 46, .call { callee := .value (.func 33), args := #[.tmp 33, .tmp 45], argTypes := #[37, 37] }, 37, "l11_batch.go:83", #[⟨0, .data⟩, ⟨12, .data⟩, ⟨12, .chain⟩], none⟩) rfl (fun K hK => ?_) AllReadyH.nil
          go_simp
          go_at_call 33
          refine (ratAdd_s X (leF (qa : Int) (qb : Int) ZP ZQ ZR GP GQ UP UQ) (.slice Ax nx cx) (.slice Bx mx dx) (.slice A7 n7 c7) (.slice B7 m7 d7) _ (S_5.out.fr 1 0 rfl rfl rfl) (S_5.out.fr 0 0 rfl rfl rfl)).mono ?_
          rintro e w8 ⟨v8, u8, rfl, ho, hb⟩
          obtain ⟨A8, n8, c8, rfl⟩ := (ho.at_ 0 rfl).shape3
          obtain ⟨B8, m8, d8, rfl⟩ := (ho.at_ 1 rfl).shape3
          have S_6 := Lib.hid (S_5.out.rows ho hb)
          clear S_5 ho hb
          refine hK.out _ _ (⟨S_6.out.cell 0 0 rfl rfl, S_6.out.cell 0 1 rfl rfl, S_6.out.cell 0 2 rfl rfl, S_6.out.cell 0 3 rfl rfl, S_6.out.cell 0 4 rfl rfl, S_6.out.cell 0 5 rfl rfl, S_6.out.cell 0 6 rfl rfl, S_6.out.cell 0 7 rfl rfl, S_6.out.cell 0 8 rfl rfl, S_6.out.cell 0 9 rfl rfl, S_6.out.cell 0 10 rfl rfl, (S_6.out.below.cell (p := ⟨g3, o3 + qa * 6, none⟩) hg2).trans y_0, (S_6.out.below.cell (p := ⟨g3, o3 + qa * 6 + 1, none⟩) hg2).trans y_1, (S_6.out.below.cell (p := ⟨g3, o3 + qa * 6 + 2, none⟩) hg2).trans y_2, (S_6.out.below.cell (p := ⟨g3, o3 + qa * 6 + 3, none⟩) hg2).trans y_3, (S_6.out.below.cell (p := ⟨g3, o3 + qa * 6 + 4, none⟩) hg2).trans y_4, (S_6.out.below.cell (p := ⟨g3, o3 + qa * 6 + 5, none⟩) hg2).trans y_5, (S_6.out.below.cell (p := ⟨g3, o3 + qb * 6, none⟩) hg2).trans x_0, (S_6.out.below.cell (p := ⟨g3, o3 + qb * 6 + 1, none⟩) hg2).trans x_1, (S_6.out.below.cell (p := ⟨g3, o3 + qb * 6 + 2, none⟩) hg2).trans x_2, (S_6.out.below.cell (p := ⟨g3, o3 + qb * 6 + 3, none⟩) hg2).trans x_3, (S_6.out.below.cell (p := ⟨g3, o3 + qb * 6 + 4, none⟩) hg2).trans x_4, (S_6.out.below.cell (p := ⟨g3, o3 + qb * 6 + 5, none⟩) hg2).trans x_5⟩) (fun hHeld13 => ?_)
          clear hK K
          try simp only [pm, s0, sS]
          refine wpAnyH_ready (rs := [14]) (by kernel_rfl) (by simp) ?_
          refine AllReadyH.cons (o := ⟨none, .store 37 (.tmp 6) (.tmp 46), 0, "l11_batch.go:83", #[⟨13, .data⟩, ⟨13, .chain⟩, ⟨0, .phase⟩, ⟨1, .phase⟩, ⟨2, .phase⟩, ⟨3, .phase⟩, ⟨4, .phase⟩, ⟨5, .phase⟩, ⟨6, .phase⟩, ⟨7, .phase⟩, ⟨8, .phase⟩, ⟨9, .phase⟩, ⟨10, .phase⟩, ⟨11, .phase⟩, ⟨12, .phase⟩, ⟨13, .phase⟩], none⟩) rfl (fun K hK => ?_) AllReadyH.nil
          rw [if_pos (by rfl)]
          refine wp_store_mid _ _ _ rfl _ _ (List.toArray [.bool (X.add (leF (qa : Int) (qb : Int) ZP ZQ ZR GP GQ UP UQ)).s, (.slice A8 n8 c8), (.slice B8 m8 d8)]) rfl rfl (S_6.out.thereT 1 rfl rfl) (size_ratT) (all_oneCell_toArray (cs := [.bool (X.add (leF (qa : Int) (qb : Int) ZP ZQ ZR GP GQ UP UQ)).s, (.slice A8 n8 c8), (.slice B8 m8 d8)]) (List.all_eq_true.mp rfl)) ?_
          simp only [Act.put]
          have S_7 := Lib.hid (S_6.out.setKitT 1 [.bool (X.add (leF (qa : Int) (qb : Int) ZP ZQ ZR GP GQ UP UQ)).s, (.slice A8 n8 c8), (.slice B8 m8 d8)] rfl rfl)
          clear S_6
          refine hK.out _ _ (⟨S_7.out.cell 0 0 rfl rfl, S_7.out.cell 0 1 rfl rfl, S_7.out.cell 0 2 rfl rfl, S_7.out.cell 0 3 rfl rfl, S_7.out.cell 0 4 rfl rfl, S_7.out.cell 0 5 rfl rfl, S_7.out.cell 0 6 rfl rfl, S_7.out.cell 0 7 rfl rfl, S_7.out.cell 0 8 rfl rfl, S_7.out.cell 0 9 rfl rfl, S_7.out.cell 0 10 rfl rfl, (S_7.out.below.cell (p := ⟨g3, o3 + qa * 6, none⟩) hg2).trans y_0, (S_7.out.below.cell (p := ⟨g3, o3 + qa * 6 + 1, none⟩) hg2).trans y_1, (S_7.out.below.cell (p := ⟨g3, o3 + qa * 6 + 2, none⟩) hg2).trans y_2, (S_7.out.below.cell (p := ⟨g3, o3 + qa * 6 + 3, none⟩) hg2).trans y_3, (S_7.out.below.cell (p := ⟨g3, o3 + qa * 6 + 4, none⟩) hg2).trans y_4, (S_7.out.below.cell (p := ⟨g3, o3 + qa * 6 + 5, none⟩) hg2).trans y_5, (S_7.out.below.cell (p := ⟨g3, o3 + qb * 6, none⟩) hg2).trans x_0, (S_7.out.below.cell (p := ⟨g3, o3 + qb * 6 + 1, none⟩) hg2).trans x_1, (S_7.out.below.cell (p := ⟨g3, o3 + qb * 6 + 2, none⟩) hg2).trans x_2, (S_7.out.below.cell (p := ⟨g3, o3 + qb * 6 + 3, none⟩) hg2).trans x_3, (S_7.out.below.cell (p := ⟨g3, o3 + qb * 6 + 4, none⟩) hg2).trans x_4, (S_7.out.below.cell (p := ⟨g3, o3 + qb * 6 + 5, none⟩) hg2).trans x_5⟩) (fun hHeld14 => ?_)
          clear hK K
          try simp only [pm, s0, sS]
          refine wpAnyH_done (by kernel_rfl) ?_ _
          refine NoPanic.normal ?_
          go_wp2
          have E1 : X.add (leF (qa : Int) (qb : Int) ZP ZQ ZR GP GQ UP UQ) = teSum (zs.take (k + 1)) (dats ps) := by rw [teSum_step HZ.out, HX.out]; show _ = X.add (leF (qa : Int) (qb : Int) ZP ZQ ZR (tX (tAt (dats ps) (qa : Int))) (tY (tAt (dats ps) (qa : Int))) (tX (tAt (dats ps) (qb : Int))) (tY (tAt (dats ps) (qb : Int)))); rw [HG.out, HU.out]; rfl
          exact ⟨⟨k + 1, _, _, _, by omega, by first | rfl | go_num, HI2.out, E1.symm, ((S_7.out.drop 2).drop 1).dropBox 0⟩, by simp [intOf]; omega⟩
        exact AllReadyH.nil
      · have S_5 := Lib.hid (R_0.out.alloc [.int .i64 ZA, .int .i64 ZB, .bool ZP.s, (.slice a0 n0 c0), (.slice a1 n1 c1), .bool ZQ.s, (.slice a2 n2 c2), (.slice a3 n3 c3), .bool ZR.s, (.slice a4 n4 c4), (.slice a5 n5 c5)] 78)
        clear R_0
        have hne_sum_p := S_5.out.ne 1 0 rfl rfl (by decide)
        have hne_p_sum := S_5.out.ne 0 1 rfl rfl (by decide)
        have hne_ret_p := S_5.out.ne 2 0 rfl rfl (by decide)
        have hne_p_ret := S_5.out.ne 0 2 rfl rfl (by decide)
        clear hk_sum_0_3 hk_sum_0_3f hk_sum_1_3 hk_sum_1_3f hk_sum_2_3 hk_sum_2_3f hk_ret_0_3 hk_ret_0_3f hk_ret_1_3 hk_ret_1_3f hk_ret_2_3 hk_ret_2_3f
        have hk_p_0_5 := S_5.out.cell 0 0 rfl rfl
        have hk_p_1_5 := S_5.out.cell 0 1 rfl rfl
        have hk_p_2_5 := S_5.out.cell 0 2 rfl rfl
        have hk_p_3_5 := S_5.out.cell 0 3 rfl rfl
        have hk_p_4_5 := S_5.out.cell 0 4 rfl rfl
        have hk_p_5_5 := S_5.out.cell 0 5 rfl rfl
        have hk_p_6_5 := S_5.out.cell 0 6 rfl rfl
        have hk_p_7_5 := S_5.out.cell 0 7 rfl rfl
        have hk_p_8_5 := S_5.out.cell 0 8 rfl rfl
        have hk_p_9_5 := S_5.out.cell 0 9 rfl rfl
        have hk_p_10_5 := S_5.out.cell 0 10 rfl rfl
        have hk_sum_0_5 := S_5.out.cell 1 0 rfl rfl
        have hk_sum_1_5 := S_5.out.cell 1 1 rfl rfl
        have hk_sum_2_5 := S_5.out.cell 1 2 rfl rfl
        have hk_ret_0_5 := S_5.out.cell 2 0 rfl rfl
        have hk_ret_1_5 := S_5.out.cell 2 1 rfl rfl
        have hk_ret_2_5 := S_5.out.cell 2 2 rfl rfl
        have HNO := Lib.hid (show ok = false by rw [← HOK.out, teAll_bad HZ.out (by rw [← Bool.not_eq_true, teIn_iff]; exact hin)]; rfl)
        go_wp2_with fail
        refine (l01In_t ZA 0 ((m : Int) - 1) _).mono ?_
        rintro e w' ⟨rfl, hw⟩
        subst hw
        by_cases hqa : 0 ≤ ZA ∧ ZA ≤ (m : Int) - 1
        · rw [decide_eq_true hqa]
          have hqb : ¬ (0 ≤ ZB ∧ ZB ≤ (m : Int) - 1) := by omega
          clear hk_p_0_5 hk_p_1_5 hk_p_2_5 hk_p_3_5 hk_p_4_5 hk_p_5_5 hk_p_6_5 hk_p_7_5 hk_p_8_5 hk_p_9_5 hk_p_10_5 hk_sum_0_5 hk_sum_1_5 hk_sum_2_5 hk_ret_0_5 hk_ret_1_5 hk_ret_2_5
          have hk_p_0_5 := S_5.out.cell 0 0 rfl rfl
          have hk_p_1_5 := S_5.out.cell 0 1 rfl rfl
          have hk_p_2_5 := S_5.out.cell 0 2 rfl rfl
          have hk_p_3_5 := S_5.out.cell 0 3 rfl rfl
          have hk_p_4_5 := S_5.out.cell 0 4 rfl rfl
          have hk_p_5_5 := S_5.out.cell 0 5 rfl rfl
          have hk_p_6_5 := S_5.out.cell 0 6 rfl rfl
          have hk_p_7_5 := S_5.out.cell 0 7 rfl rfl
          have hk_p_8_5 := S_5.out.cell 0 8 rfl rfl
          have hk_p_9_5 := S_5.out.cell 0 9 rfl rfl
          have hk_p_10_5 := S_5.out.cell 0 10 rfl rfl
          have hk_sum_0_5 := S_5.out.cell 1 0 rfl rfl
          have hk_sum_1_5 := S_5.out.cell 1 1 rfl rfl
          have hk_sum_2_5 := S_5.out.cell 1 2 rfl rfl
          have hk_ret_0_5 := S_5.out.cell 2 0 rfl rfl
          have hk_ret_1_5 := S_5.out.cell 2 1 rfl rfl
          have hk_ret_2_5 := S_5.out.cell 2 2 rfl rfl
          go_wp2_with fail
          refine (l01In_t ZB 0 ((m : Int) - 1) _).mono ?_
          rintro e w' ⟨rfl, hw⟩
          subst hw
          rw [decide_eq_false hqb]
          clear hk_p_0_5 hk_p_1_5 hk_p_2_5 hk_p_3_5 hk_p_4_5 hk_p_5_5 hk_p_6_5 hk_p_7_5 hk_p_8_5 hk_p_9_5 hk_p_10_5 hk_sum_0_5 hk_sum_1_5 hk_sum_2_5 hk_ret_0_5 hk_ret_1_5 hk_ret_2_5
          have hk_ret_0_5 := S_5.out.cell 2 0 rfl rfl
          have hk_ret_0_5f := S_5.out.froz 2 0 rfl rfl
          have hk_ret_1_5 := S_5.out.cell 2 1 rfl rfl
          have hk_ret_1_5f := S_5.out.froz 2 1 rfl rfl
          have hk_ret_2_5 := S_5.out.cell 2 2 rfl rfl
          have hk_ret_2_5f := S_5.out.froz 2 2 rfl rfl
          go_wp2
          have SR := Lib.hid (S_5.out.setAll 2 [.bool false, .slice none 0 0, .slice none 0 0] rfl rfl)
          have hr0 := S_5.out.cell 2 0 rfl rfl
          have hr1 := S_5.out.cell 2 1 rfl rfl
          have hr2 := S_5.out.cell 2 2 rfl rfl
          exact bodyPost_ret (v := .tuple #[.agg #[.bool false, .slice none 0 0, .slice none 0 0], .bool false]) (by simp [results, Tryz.results12, go_sem, hr0, hr1, hr2]) rfl (OwnTE.no HNO.out SR.out)
        · rw [decide_eq_false hqa]
          clear hk_p_0_5 hk_p_1_5 hk_p_2_5 hk_p_3_5 hk_p_4_5 hk_p_5_5 hk_p_6_5 hk_p_7_5 hk_p_8_5 hk_p_9_5 hk_p_10_5 hk_sum_0_5 hk_sum_1_5 hk_sum_2_5 hk_ret_0_5 hk_ret_1_5 hk_ret_2_5
          have hk_ret_0_5 := S_5.out.cell 2 0 rfl rfl
          have hk_ret_0_5f := S_5.out.froz 2 0 rfl rfl
          have hk_ret_1_5 := S_5.out.cell 2 1 rfl rfl
          have hk_ret_1_5f := S_5.out.froz 2 1 rfl rfl
          have hk_ret_2_5 := S_5.out.cell 2 2 rfl rfl
          have hk_ret_2_5f := S_5.out.froz 2 2 rfl rfl
          go_wp2
          have SR := Lib.hid (S_5.out.setAll 2 [.bool false, .slice none 0 0, .slice none 0 0] rfl rfl)
          have hr0 := S_5.out.cell 2 0 rfl rfl
          have hr1 := S_5.out.cell 2 1 rfl rfl
          have hr2 := S_5.out.cell 2 2 rfl rfl
          exact bodyPost_ret (v := .tuple #[.agg #[.bool false, .slice none 0 0, .slice none 0 0], .bool false]) (by simp [results, Tryz.results12, go_sem, hr0, hr1, hr2]) rfl (OwnTE.no HNO.out SR.out)
    · obtain rfl : k = n := by omega
      have hl : zs.take k = zs := List.take_of_length_le (by rw [HL.out]; exact Nat.le_refl _)
      obtain rfl : XX = X := by rw [← HX.out, hl]; exact HXX.out.symm
      have HAI := Lib.hid (show teAll zs m = true from teAll_iff.mpr (by rw [HL.out]; exact HI.out))
      clear hl
      clear hk_sum_0_3 hk_sum_0_3f hk_sum_1_3 hk_sum_1_3f hk_sum_2_3 hk_sum_2_3f hk_ret_0_3 hk_ret_0_3f hk_ret_1_3 hk_ret_1_3f hk_ret_2_3 hk_ret_2_3f
      have hk_sum_0_5 := R_0.out.cell 0 0 rfl rfl
      have hk_sum_1_5 := R_0.out.cell 0 1 rfl rfl
      have hk_sum_2_5 := R_0.out.cell 0 2 rfl rfl
      go_wp2_with fail
      refine (ratOk_s XX (.slice Ax nx cx) (.slice Bx mx dx) _ (R_0.out.fr 0 0 rfl rfl rfl)).mono ?_
      rintro e w9 ⟨rfl, hb⟩
      have S_6 := Lib.hid (R_0.out.call hb)
      clear R_0
      clear hb
      by_cases h5 : XX.ok = true
      · have HYS := Lib.hid (show ok = true by rw [← HOK.out, h5, HAI.out]; rfl)
        rw [h5]
        clear h5
        clear hk_sum_0_5 hk_sum_1_5 hk_sum_2_5
        have hk_sum_0_6 := S_6.out.cell 0 0 rfl rfl
        have hk_sum_1_6 := S_6.out.cell 0 1 rfl rfl
        have hk_sum_2_6 := S_6.out.cell 0 2 rfl rfl
        have hk_ret_0_6 := S_6.out.cell 1 0 rfl rfl
        have hk_ret_0_6f := S_6.out.froz 1 0 rfl rfl
        have hk_ret_1_6 := S_6.out.cell 1 1 rfl rfl
        have hk_ret_1_6f := S_6.out.froz 1 1 rfl rfl
        have hk_ret_2_6 := S_6.out.cell 1 2 rfl rfl
        have hk_ret_2_6f := S_6.out.froz 1 2 rfl rfl
        go_wp2
        have SR := Lib.hid (S_6.out.setAll 1 [.bool XX.s, (.slice Ax nx cx), (.slice Bx mx dx)] rfl rfl)
        have hr0 := S_6.out.cell 1 0 rfl rfl
        have hr1 := S_6.out.cell 1 1 rfl rfl
        have hr2 := S_6.out.cell 1 2 rfl rfl
        exact bodyPost_ret (v := .tuple #[.agg #[.bool XX.s, (.slice Ax nx cx), (.slice Bx mx dx)], .bool true]) (by simp [results, Tryz.results12, go_sem, hr0, hr1, hr2]) rfl (OwnTE.yes HYS.out ⟨_, _, rfl, SR.out.own 0 rfl, SR.out.below⟩)
      · rw [Bool.not_eq_true] at h5
        have HNO := Lib.hid (show ok = false by rw [← HOK.out, h5]; simp)
        rw [h5]
        clear h5
        clear hk_sum_0_5 hk_sum_1_5 hk_sum_2_5
        have hk_ret_0_6 := S_6.out.cell 1 0 rfl rfl
        have hk_ret_0_6f := S_6.out.froz 1 0 rfl rfl
        have hk_ret_1_6 := S_6.out.cell 1 1 rfl rfl
        have hk_ret_1_6f := S_6.out.froz 1 1 rfl rfl
        have hk_ret_2_6 := S_6.out.cell 1 2 rfl rfl
        have hk_ret_2_6f := S_6.out.froz 1 2 rfl rfl
        go_wp2
        have SR := Lib.hid (S_6.out.setAll 1 [.bool false, .slice none 0 0, .slice none 0 0] rfl rfl)
        have hr0 := S_6.out.cell 1 0 rfl rfl
        have hr1 := S_6.out.cell 1 1 rfl rfl
        have hr2 := S_6.out.cell 1 2 rfl rfl
        exact bodyPost_ret (v := .tuple #[.agg #[.bool false, .slice none 0 0, .slice none 0 0], .bool false]) (by simp [results, Tryz.results12, go_sem, hr0, hr1, hr2]) rfl (OwnTE.no HNO.out SR.out)
set_option maxRecDepth 100000 in
set_option maxHeartbeats 40000000 in
theorem totalEnergy_i (A : Option Addr) (n c : Nat) (zs : List Lr) (D : Option Addr) (m d : Nat) (ps : List Rc) (w : World) (hA : LArg w A n zs) (hD : RArg 6 0 2 w D m ps) (hn : n ≤ 1048576) (hm : m ≤ 1048576) :
    Calls Tryz.prog 15 #[.slice A n c, .slice D m d] w (OwnTE (teOk zs (dats ps)) (teSum zs (dats ps)) w) := by
  have HA := Lib.hid hA
  have HD := Lib.hid hD
  have HL := Lib.hid (show zs.length = n from hA.row.1)
  have HM := Lib.hid (show (dats ps).length = m by rw [dats_len]; exact hD.row.len)
  obtain ⟨ok, hok⟩ : ∃ z, teOk zs (dats ps) = z := ⟨_, rfl⟩
  obtain ⟨XX, hXX⟩ : ∃ z, teSum zs (dats ps) = z := ⟨_, rfl⟩
  rw [hok, hXX]
  have HOK := Lib.hid (show (teAll zs m && XX.ok) = ok by rw [← hok, ← hXX]; unfold teOk; rw [HM.out])
  have HXX := Lib.hid hXX
  clear hA hD hok hXX
  have S_1 := Lib.hid (show St w (w.alloc (.cells #[.bool false, .slice none 0 0, .slice none 0 0] 37)) [(w.heap.size, [.bool false, .slice none 0 0, .slice none 0 0])] [] from ((St.start w).alloc_at (b := w.heap.size) [.bool false, .slice none 0 0, .slice none 0 0] 37 (by first | rfl | simp)))
  go_enter Tryz.func15, Tryz.ntmps15
  go_wp2_with fail
  refine (ratFromInt_i 0 _ (by decide)).mono ?_
  rintro e w2 ⟨v0, u0, rfl, ho, hb⟩
  obtain ⟨A0, n0, c0, rfl⟩ := (ho.at_ 0 rfl).shape3
  obtain ⟨B0, m0, d0, rfl⟩ := (ho.at_ 1 rfl).shape3
  have S_2 := Lib.hid (S_1.out.rows ho hb)
  clear S_1
  clear ho hb
  have S_3 := Lib.hid (S_2.out.alloc [.bool (Fr.of 0).s, (.slice A0 n0 c0), (.slice B0 m0 d0)] 37)
  clear S_2
  have hne_ret_sum := S_3.out.ne 1 0 rfl rfl (by decide)
  have hne_sum_ret := S_3.out.ne 0 1 rfl rfl (by decide)
  have hk_sum_0_3 := S_3.out.cell 0 0 rfl rfl
  have hk_sum_0_3f := S_3.out.froz 0 0 rfl rfl
  have hk_sum_1_3 := S_3.out.cell 0 1 rfl rfl
  have hk_sum_1_3f := S_3.out.froz 0 1 rfl rfl
  have hk_sum_2_3 := S_3.out.cell 0 2 rfl rfl
  have hk_sum_2_3f := S_3.out.froz 0 2 rfl rfl
  have hk_ret_0_3 := S_3.out.cell 1 0 rfl rfl
  have hk_ret_0_3f := S_3.out.froz 1 0 rfl rfl
  have hk_ret_1_3 := S_3.out.cell 1 1 rfl rfl
  have hk_ret_1_3f := S_3.out.froz 1 1 rfl rfl
  have hk_ret_2_3 := S_3.out.cell 1 2 rfl rfl
  have hk_ret_2_3f := S_3.out.froz 1 2 rfl rfl
  go_wp2
  have SX := Lib.hid S_3.out
  go_loopw [12] (fun i wr => ∃ (k : Nat) (X : Fr) (x0 x1 : Value), k ≤ n ∧ i = .int .i64 k ∧ inT zs m k ∧ teSum (zs.take k) (dats ps) = X ∧ St w wr [(w2.heap.size, [.bool X.s, x0, x1]), (w.heap.size, [.bool false, .slice none 0 0, .slice none 0 0])] [[(x0, ints X.xs), (x1, ints X.ys)]]) (fun i _ => n - (intOf i).toNat)
  case atStart => exact ⟨0, Fr.of 0, _, _, Nat.zero_le _, rfl, fun i z hi => by omega, rfl, SX.out⟩
  case round =>
    obtain ⟨k, X, x0, x1, hk, rfl, hin, hX, hst⟩ := hrel
    have HI := Lib.hid hin
    have HX := Lib.hid hX
    obtain ⟨Ax, nx, cx, rfl⟩ := ((hst.own 0 rfl).at_ 0 rfl).shape3
    obtain ⟨Bx, mx, dx, rfl⟩ := ((hst.own 0 rfl).at_ 1 rfl).shape3
    have R_0 := Lib.hid hst
    clear hin hX hst SX
    by_cases hlt : k < n
    · obtain ⟨g1, o1, z, rfl, hg1, hz, hr, hc⟩ := HA.out.at_ hlt
      obtain ⟨ZA, ZB, ZP, ZQ, ZR, a0, n0, c0, a1, n1, c1, a2, n2, c2, a3, n3, c3, a4, n4, c4, a5, n5, c5, rfl⟩ := LArg.shapes hr
      have HZ := Lib.hid hz
      have HR := Lib.hid hr
      have hi0 : (0 : Int) ≤ (k : Int) := by omega
      have hi1 : (k : Int) < (n : Int) := by omega
      have d0 : wr.cell? ⟨g1, o1 + k * 11, none⟩ = some (.int .i64 ZA) := (R_0.out.below.cell (p := ⟨g1, o1 + k * 11, none⟩) hg1).trans (hc 0 _ rfl)
      have d1 : wr.cell? ⟨g1, o1 + k * 11 + 1, none⟩ = some (.int .i64 ZB) := (R_0.out.below.cell (p := ⟨g1, o1 + k * 11 + 1, none⟩) hg1).trans (hc 1 _ rfl)
      have d2 : wr.cell? ⟨g1, o1 + k * 11 + 2, none⟩ = some (.bool ZP.s) := (R_0.out.below.cell (p := ⟨g1, o1 + k * 11 + 2, none⟩) hg1).trans (hc 2 _ rfl)
      have d3 : wr.cell? ⟨g1, o1 + k * 11 + 3, none⟩ = some ((.slice a0 n0 c0)) := (R_0.out.below.cell (p := ⟨g1, o1 + k * 11 + 3, none⟩) hg1).trans (hc 3 _ rfl)
      have d4 : wr.cell? ⟨g1, o1 + k * 11 + 4, none⟩ = some ((.slice a1 n1 c1)) := (R_0.out.below.cell (p := ⟨g1, o1 + k * 11 + 4, none⟩) hg1).trans (hc 4 _ rfl)
      have d5 : wr.cell? ⟨g1, o1 + k * 11 + 5, none⟩ = some (.bool ZQ.s) := (R_0.out.below.cell (p := ⟨g1, o1 + k * 11 + 5, none⟩) hg1).trans (hc 5 _ rfl)
      have d6 : wr.cell? ⟨g1, o1 + k * 11 + 6, none⟩ = some ((.slice a2 n2 c2)) := (R_0.out.below.cell (p := ⟨g1, o1 + k * 11 + 6, none⟩) hg1).trans (hc 6 _ rfl)
      have d7 : wr.cell? ⟨g1, o1 + k * 11 + 7, none⟩ = some ((.slice a3 n3 c3)) := (R_0.out.below.cell (p := ⟨g1, o1 + k * 11 + 7, none⟩) hg1).trans (hc 7 _ rfl)
      have d8 : wr.cell? ⟨g1, o1 + k * 11 + 8, none⟩ = some (.bool ZR.s) := (R_0.out.below.cell (p := ⟨g1, o1 + k * 11 + 8, none⟩) hg1).trans (hc 8 _ rfl)
      have d9 : wr.cell? ⟨g1, o1 + k * 11 + 9, none⟩ = some ((.slice a4 n4 c4)) := (R_0.out.below.cell (p := ⟨g1, o1 + k * 11 + 9, none⟩) hg1).trans (hc 9 _ rfl)
      have d10 : wr.cell? ⟨g1, o1 + k * 11 + 10, none⟩ = some ((.slice a5 n5 c5)) := (R_0.out.below.cell (p := ⟨g1, o1 + k * 11 + 10, none⟩) hg1).trans (hc 10 _ rfl)
      clear hz hc hr
      by_cases hin : (0 ≤ ZA ∧ ZA < (m : Int)) ∧ (0 ≤ ZB ∧ ZB < (m : Int))
      · have HIN := Lib.hid (show teIn m ⟨ZA, ZB, ZP, ZQ, ZR, .slice a0 n0 c0, .slice a1 n1 c1, .slice a2 n2 c2, .slice a3 n3 c3, .slice a4 n4 c4, .slice a5 n5 c5⟩ = true from teIn_iff.mpr hin)
        have HI2 := Lib.hid (inT_step HI.out HZ.out HIN.out)
        obtain ⟨⟨hA0, hA1⟩, hB0, hB1⟩ := hin
        obtain ⟨qa, rfl⟩ : ∃ q : Nat, ZA = q := ⟨ZA.toNat, by omega⟩
        obtain ⟨qb, rfl⟩ : ∃ q : Nat, ZB = q := ⟨ZB.toNat, by omega⟩
        have S_4 := Lib.hid (R_0.out.alloc [.int .i64 (qa : Int), .int .i64 (qb : Int), .bool ZP.s, (.slice a0 n0 c0), (.slice a1 n1 c1), .bool ZQ.s, (.slice a2 n2 c2), (.slice a3 n3 c3), .bool ZR.s, (.slice a4 n4 c4), (.slice a5 n5 c5)] 78)
        clear R_0
        have hne_sum_p := S_4.out.ne 1 0 rfl rfl (by decide)
        have hne_p_sum := S_4.out.ne 0 1 rfl rfl (by decide)
        have hne_ret_p := S_4.out.ne 2 0 rfl rfl (by decide)
        have hne_p_ret := S_4.out.ne 0 2 rfl rfl (by decide)
        clear hk_sum_0_3 hk_sum_0_3f hk_sum_1_3 hk_sum_1_3f hk_sum_2_3 hk_sum_2_3f hk_ret_0_3 hk_ret_0_3f hk_ret_1_3 hk_ret_1_3f hk_ret_2_3 hk_ret_2_3f
        have hk_p_0_4 := S_4.out.cell 0 0 rfl rfl
        have hk_p_1_4 := S_4.out.cell 0 1 rfl rfl
        have hk_p_2_4 := S_4.out.cell 0 2 rfl rfl
        have hk_p_3_4 := S_4.out.cell 0 3 rfl rfl
        have hk_p_4_4 := S_4.out.cell 0 4 rfl rfl
        have hk_p_5_4 := S_4.out.cell 0 5 rfl rfl
        have hk_p_6_4 := S_4.out.cell 0 6 rfl rfl
        have hk_p_7_4 := S_4.out.cell 0 7 rfl rfl
        have hk_p_8_4 := S_4.out.cell 0 8 rfl rfl
        have hk_p_9_4 := S_4.out.cell 0 9 rfl rfl
        have hk_p_10_4 := S_4.out.cell 0 10 rfl rfl
        have hk_sum_0_4 := S_4.out.cell 1 0 rfl rfl
        have hk_sum_1_4 := S_4.out.cell 1 1 rfl rfl
        have hk_sum_2_4 := S_4.out.cell 1 2 rfl rfl
        have hk_ret_0_4 := S_4.out.cell 2 0 rfl rfl
        have hk_ret_1_4 := S_4.out.cell 2 1 rfl rfl
        have hk_ret_2_4 := S_4.out.cell 2 2 rfl rfl
        obtain ⟨g2, o2, y, hDe, hg2, hy, hry, hsy, hcy⟩ := HD.out.at_t (show qa < m by omega)
        obtain ⟨g3, o3, x, hDe2, hg3, hx, hrx, hsx, hcx⟩ := HD.out.at_t (show qb < m by omega)
        obtain rfl := hDe
        obtain ⟨rfl, rfl⟩ : g3 = g2 ∧ o3 = o2 := by simpa [eq_comm] using hDe2
        clear hDe2 hg3
        obtain ⟨GP, GQ, e0, m0, j0, e1, m1, j1, e2, m2, j2, e3, m3, j3, rfl⟩ := Rc.shapesT hsy hry
        obtain ⟨UP, UQ, f0, o0_, h0_, f1, o1_, h1_, f2, o2_, h2_, f3, o3_, h3_, rfl⟩ := Rc.shapesT hsx hrx
        have HRY := Lib.hid hry
        have HRX := Lib.hid hrx
        have HG := Lib.hid (show tAt (dats ps) (qa : Int) = Rc.dat ⟨[], [(GP, .slice e0 m0 j0, .slice e1 m1 j1), (GQ, .slice e2 m2 j2, .slice e3 m3 j3)]⟩ by unfold tAt; rw [Int.toNat_natCast, List.getD_eq_getElem?_getD, datt_get hy]; rfl)
        have HU := Lib.hid (show tAt (dats ps) (qb : Int) = Rc.dat ⟨[], [(UP, .slice f0 o0_ h0_, .slice f1 o1_ h1_), (UQ, .slice f2 o2_ h2_, .slice f3 o3_ h3_)]⟩ by unfold tAt; rw [Int.toNat_natCast, List.getD_eq_getElem?_getD, datt_get hx]; rfl)
        have y_0 : w.cell? ⟨g3, o3 + qa * 6, none⟩ = some (.bool GP.s) := hcy 0 _ rfl
        have y_1 : w.cell? ⟨g3, o3 + qa * 6 + 1, none⟩ = some ((.slice e0 m0 j0)) := hcy 1 _ rfl
        have y_2 : w.cell? ⟨g3, o3 + qa * 6 + 2, none⟩ = some ((.slice e1 m1 j1)) := hcy 2 _ rfl
        have y_3 : w.cell? ⟨g3, o3 + qa * 6 + 3, none⟩ = some (.bool GQ.s) := hcy 3 _ rfl
        have y_4 : w.cell? ⟨g3, o3 + qa * 6 + 4, none⟩ = some ((.slice e2 m2 j2)) := hcy 4 _ rfl
        have y_5 : w.cell? ⟨g3, o3 + qa * 6 + 5, none⟩ = some ((.slice e3 m3 j3)) := hcy 5 _ rfl
        have x_0 : w.cell? ⟨g3, o3 + qb * 6, none⟩ = some (.bool UP.s) := hcx 0 _ rfl
        have x_1 : w.cell? ⟨g3, o3 + qb * 6 + 1, none⟩ = some ((.slice f0 o0_ h0_)) := hcx 1 _ rfl
        have x_2 : w.cell? ⟨g3, o3 + qb * 6 + 2, none⟩ = some ((.slice f1 o1_ h1_)) := hcx 2 _ rfl
        have x_3 : w.cell? ⟨g3, o3 + qb * 6 + 3, none⟩ = some (.bool UQ.s) := hcx 3 _ rfl
        have x_4 : w.cell? ⟨g3, o3 + qb * 6 + 4, none⟩ = some ((.slice f2 o2_ h2_)) := hcx 4 _ rfl
        have x_5 : w.cell? ⟨g3, o3 + qb * 6 + 5, none⟩ = some ((.slice f3 o3_ h3_)) := hcx 5 _ rfl
        clear hy hsy hry hcy hx hsx hrx hcx
        have hmn : ¬ (if (qb : Int) < (qa : Int) then (qb : Int) else (qa : Int)) < 0 := by split <;> omega
        have hmx : ¬ (m : Int) ≤ (if (qb : Int) > (qa : Int) then (qb : Int) else (qa : Int)) := by split <;> omega
        go_upto_region 7 with fail
        clear d0 d1 d2 d3 d4 d5 d6 d7 d8 d9 d10
        clear hk_p_0_4 hk_p_1_4 hk_p_2_4 hk_p_3_4 hk_p_4_4 hk_p_5_4 hk_p_6_4 hk_p_7_4 hk_p_8_4 hk_p_9_4 hk_p_10_4 hk_sum_0_4 hk_sum_1_4 hk_sum_2_4 hk_ret_0_4 hk_ret_1_4 hk_ret_2_4
        refine wp_region_noPanic ?_
        refine wp_region_held_drew (S := (fun w' => w'.cell? ⟨wr.heap.size, 0, none⟩ = some (.int .i64 (qa : Int)) ∧ w'.cell? ⟨wr.heap.size, 1, none⟩ = some (.int .i64 (qb : Int)) ∧ w'.cell? ⟨wr.heap.size, 2, none⟩ = some (.bool ZP.s) ∧ w'.cell? ⟨wr.heap.size, 3, none⟩ = some ((.slice a0 n0 c0)) ∧ w'.cell? ⟨wr.heap.size, 4, none⟩ = some ((.slice a1 n1 c1)) ∧ w'.cell? ⟨wr.heap.size, 5, none⟩ = some (.bool ZQ.s) ∧ w'.cell? ⟨wr.heap.size, 6, none⟩ = some ((.slice a2 n2 c2)) ∧ w'.cell? ⟨wr.heap.size, 7, none⟩ = some ((.slice a3 n3 c3)) ∧ w'.cell? ⟨wr.heap.size, 8, none⟩ = some (.bool ZR.s) ∧ w'.cell? ⟨wr.heap.size, 9, none⟩ = some ((.slice a4 n4 c4)) ∧ w'.cell? ⟨wr.heap.size, 10, none⟩ = some ((.slice a5 n5 c5)) ∧ w'.cell? ⟨g3, o3 + qa * 6, none⟩ = some (.bool GP.s) ∧ w'.cell? ⟨g3, o3 + qa * 6 + 1, none⟩ = some ((.slice e0 m0 j0)) ∧ w'.cell? ⟨g3, o3 + qa * 6 + 2, none⟩ = some ((.slice e1 m1 j1)) ∧ w'.cell? ⟨g3, o3 + qa * 6 + 3, none⟩ = some (.bool GQ.s) ∧ w'.cell? ⟨g3, o3 + qa * 6 + 4, none⟩ = some ((.slice e2 m2 j2)) ∧ w'.cell? ⟨g3, o3 + qa * 6 + 5, none⟩ = some ((.slice e3 m3 j3)) ∧ w'.cell? ⟨g3, o3 + qb * 6, none⟩ = some (.bool UP.s) ∧ w'.cell? ⟨g3, o3 + qb * 6 + 1, none⟩ = some ((.slice f0 o0_ h0_)) ∧ w'.cell? ⟨g3, o3 + qb * 6 + 2, none⟩ = some ((.slice f1 o1_ h1_)) ∧ w'.cell? ⟨g3, o3 + qb * 6 + 3, none⟩ = some (.bool UQ.s) ∧ w'.cell? ⟨g3, o3 + qb * 6 + 4, none⟩ = some ((.slice f2 o2_ h2_)) ∧ w'.cell? ⟨g3, o3 + qb * 6 + 5, none⟩ = some ((.slice f3 o3_ h3_)))) (by kernel_rfl) ?_ (fun hHeld => ?_)
        · exact ⟨S_4.out.drew.cell 0 0 rfl rfl, S_4.out.drew.cell 0 1 rfl rfl, S_4.out.drew.cell 0 2 rfl rfl, S_4.out.drew.cell 0 3 rfl rfl, S_4.out.drew.cell 0 4 rfl rfl, S_4.out.drew.cell 0 5 rfl rfl, S_4.out.drew.cell 0 6 rfl rfl, S_4.out.drew.cell 0 7 rfl rfl, S_4.out.drew.cell 0 8 rfl rfl, S_4.out.drew.cell 0 9 rfl rfl, S_4.out.drew.cell 0 10 rfl rfl, (S_4.out.drew.below.cell (p := ⟨g3, o3 + qa * 6, none⟩) hg2).trans y_0, (S_4.out.drew.below.cell (p := ⟨g3, o3 + qa * 6 + 1, none⟩) hg2).trans y_1, (S_4.out.drew.below.cell (p := ⟨g3, o3 + qa * 6 + 2, none⟩) hg2).trans y_2, (S_4.out.drew.below.cell (p := ⟨g3, o3 + qa * 6 + 3, none⟩) hg2).trans y_3, (S_4.out.drew.below.cell (p := ⟨g3, o3 + qa * 6 + 4, none⟩) hg2).trans y_4, (S_4.out.drew.below.cell (p := ⟨g3, o3 + qa * 6 + 5, none⟩) hg2).trans y_5, (S_4.out.drew.below.cell (p := ⟨g3, o3 + qb * 6, none⟩) hg2).trans x_0, (S_4.out.drew.below.cell (p := ⟨g3, o3 + qb * 6 + 1, none⟩) hg2).trans x_1, (S_4.out.drew.below.cell (p := ⟨g3, o3 + qb * 6 + 2, none⟩) hg2).trans x_2, (S_4.out.drew.below.cell (p := ⟨g3, o3 + qb * 6 + 3, none⟩) hg2).trans x_3, (S_4.out.drew.below.cell (p := ⟨g3, o3 + qb * 6 + 4, none⟩) hg2).trans x_4, (S_4.out.drew.below.cell (p := ⟨g3, o3 + qb * 6 + 5, none⟩) hg2).trans x_5⟩
        refine tkH 1 ?_ ⟨some 34, .load 78 (.tmp 8), 78, "l11_batch.go:61", #[], none⟩ ?_ ?_
        rotate_left
        · intro w9 hSw; (try dsimp only at hSw); go_simp; try with_reducible rfl
        try simp only [pm, s0, sS]
        refine tkH 2 ?_ ⟨some 35, .move (.tmp 1), 42, "l11_batch.go:61", #[], none⟩ ?_ ?_
        rotate_left
        · intro w9 hSw; (try dsimp only at hSw); go_simp; try with_reducible rfl
        try simp only [pm, s0, sS]
        refine tkH 3 ?_ ⟨some 36, .fieldAddr 78 (.tmp 8) 0, 0, "l11_batch.go:61", #[], none⟩ ?_ ?_
        rotate_left
        · intro w9 hSw; (try dsimp only at hSw); go_simp; try with_reducible rfl
        try simp only [pm, s0, sS]
        refine tkH 4 ?_ ⟨some 37, .load 3 (.tmp 36), 3, "l11_batch.go:61", #[⟨3, .data⟩], none⟩ ?_ ?_
        rotate_left
        · intro w9 hSw; (try dsimp only at hSw); go_simp; try with_reducible rfl
        try simp only [pm, s0, sS]
        refine tkH 5 ?_ ⟨some 38, .indexAddr 42 (.tmp 35) (.tmp 37), 0, "l11_batch.go:61", #[⟨2, .data⟩, ⟨4, .data⟩], none⟩ ?_ ?_
        rotate_left
        · intro w9 hSw; (try dsimp only at hSw); go_simp; try with_reducible rfl
        try simp only [pm, s0, sS]
        refine tkH 6 ?_ ⟨some 39, .load 83 (.tmp 38), 83, "l11_batch.go:61", #[⟨5, .data⟩], none⟩ ?_ ?_
        rotate_left
        · intro w9 hSw; (try dsimp only at hSw); go_simp; try with_reducible rfl
        try simp only [pm, s0, sS]
        refine tkH 7 ?_ ⟨some 40, .move (.tmp 1), 42, "l11_batch.go:61", #[], none⟩ ?_ ?_
        rotate_left
        · intro w9 hSw; (try dsimp only at hSw); go_simp; try with_reducible rfl
        try simp only [pm, s0, sS]
        refine tkH 8 ?_ ⟨some 41, .fieldAddr 78 (.tmp 8) 1, 0, "l11_batch.go:61", #[], none⟩ ?_ ?_
        rotate_left
        · intro w9 hSw; (try dsimp only at hSw); go_simp; try with_reducible rfl
        try simp only [pm, s0, sS]
        refine tkH 9 ?_ ⟨some 42, .load 3 (.tmp 41), 3, "l11_batch.go:61", #[⟨8, .data⟩], none⟩ ?_ ?_
        rotate_left
        · intro w9 hSw; (try dsimp only at hSw); go_simp; try with_reducible rfl
        try simp only [pm, s0, sS]
        refine tkH 10 ?_ ⟨some 43, .indexAddr 42 (.tmp 40) (.tmp 42), 0, "l11_batch.go:61", #[⟨7, .data⟩, ⟨9, .data⟩], none⟩ ?_ ?_
        rotate_left
        · intro w9 hSw; (try dsimp only at hSw); go_simp; try with_reducible rfl
        try simp only [pm, s0, sS]
        refine tkH 11 ?_ ⟨some 44, .load 83 (.tmp 43), 83, "l11_batch.go:61", #[⟨10, .data⟩], none⟩ ?_ ?_
        rotate_left
        · intro w9 hSw; (try dsimp only at hSw); go_simp; try with_reducible rfl
        try simp only [pm, s0, sS]
        refine wpAnyH_ready (rs := [0, 12]) (by kernel_rfl) (by simp) ?_
        refine AllReadyH.cons (o := ⟨some 33, .load 37 (.tmp 6), 37, "l11_batch.go:61", #[], none⟩) rfl (fun K hK => ?_) ?_
        · have hl_0 := S_4.out.drew.cell 1 0 rfl rfl
          have hl_1 := S_4.out.drew.cell 1 1 rfl rfl
          have hl_2 := S_4.out.drew.cell 1 2 rfl rfl
          go_simp
          clear hl_0 hl_1 hl_2
          refine hK.out _ _ (⟨S_4.out.drew.cell 0 0 rfl rfl, S_4.out.drew.cell 0 1 rfl rfl, S_4.out.drew.cell 0 2 rfl rfl, S_4.out.drew.cell 0 3 rfl rfl, S_4.out.drew.cell 0 4 rfl rfl, S_4.out.drew.cell 0 5 rfl rfl, S_4.out.drew.cell 0 6 rfl rfl, S_4.out.drew.cell 0 7 rfl rfl, S_4.out.drew.cell 0 8 rfl rfl, S_4.out.drew.cell 0 9 rfl rfl, S_4.out.drew.cell 0 10 rfl rfl, (S_4.out.drew.below.cell (p := ⟨g3, o3 + qa * 6, none⟩) hg2).trans y_0, (S_4.out.drew.below.cell (p := ⟨g3, o3 + qa * 6 + 1, none⟩) hg2).trans y_1, (S_4.out.drew.below.cell (p := ⟨g3, o3 + qa * 6 + 2, none⟩) hg2).trans y_2, (S_4.out.drew.below.cell (p := ⟨g3, o3 + qa * 6 + 3, none⟩) hg2).trans y_3, (S_4.out.drew.below.cell (p := ⟨g3, o3 + qa * 6 + 4, none⟩) hg2).trans y_4, (S_4.out.drew.below.cell (p := ⟨g3, o3 + qa * 6 + 5, none⟩) hg2).trans y_5, (S_4.out.drew.below.cell (p := ⟨g3, o3 + qb * 6, none⟩) hg2).trans x_0, (S_4.out.drew.below.cell (p := ⟨g3, o3 + qb * 6 + 1, none⟩) hg2).trans x_1, (S_4.out.drew.below.cell (p := ⟨g3, o3 + qb * 6 + 2, none⟩) hg2).trans x_2, (S_4.out.drew.below.cell (p := ⟨g3, o3 + qb * 6 + 3, none⟩) hg2).trans x_3, (S_4.out.drew.below.cell (p := ⟨g3, o3 + qb * 6 + 4, none⟩) hg2).trans x_4, (S_4.out.drew.below.cell (p := ⟨g3, o3 + qb * 6 + 5, none⟩) hg2).trans x_5⟩) (fun hHeld0 => ?_)
          clear hK K
          try simp only [pm, s0, sS]
          refine wpAnyH_ready (rs := [12]) (by kernel_rfl) (by simp) ?_
          refine AllReadyH.cons (o := ⟨some 45, .call { callee := .value (.func 40), args := #[.tmp 34, .tmp 39, .tmp 44], argTypes := #[78, 83, 83] }, 37, "l11_batch.go:61", #[⟨1, .data⟩, ⟨6, .data⟩, ⟨11, .data⟩], none⟩) rfl (fun K hK => ?_) AllReadyH.nil
          go_simp
          go_at_call 40
          refine (linkEnergy_i (qa : Int) (qb : Int) ZP ZQ ZR (.slice a0 n0 c0) (.slice a1 n1 c1) (.slice a2 n2 c2) (.slice a3 n3 c3) (.slice a4 n4 c4) (.slice a5 n5 c5) GP GQ UP UQ (.slice e0 m0 j0) (.slice e1 m1 j1) (.slice e2 m2 j2) (.slice e3 m3 j3) (.slice f0 o0_ h0_) (.slice f1 o1_ h1_) (.slice f2 o2_ h2_) (.slice f3 o3_ h3_) _ (HR.out.below S_4.out.drew.below) ⟨HRY.out.below S_4.out.drew.below (GP, .slice e0 m0 j0, .slice e1 m1 j1) (by simp), HRY.out.below S_4.out.drew.below (GQ, .slice e2 m2 j2, .slice e3 m3 j3) (by simp)⟩ ⟨HRX.out.below S_4.out.drew.below (UP, .slice f0 o0_ h0_, .slice f1 o1_ h1_) (by simp), HRX.out.below S_4.out.drew.below (UQ, .slice f2 o2_ h2_, .slice f3 o3_ h3_) (by simp)⟩).mono ?_
          rintro e w7 ⟨v7, u7, rfl, ho, hb⟩
          obtain ⟨A7, n7, c7, rfl⟩ := (ho.at_ 0 rfl).shape3
          obtain ⟨B7, m7, d7, rfl⟩ := (ho.at_ 1 rfl).shape3
          have S_5 := Lib.hid (S_4.out.drew.rows ho hb)
          clear S_4 ho hb
          refine hK.out _ _ (⟨S_5.out.cell 0 0 rfl rfl, S_5.out.cell 0 1 rfl rfl, S_5.out.cell 0 2 rfl rfl, S_5.out.cell 0 3 rfl rfl, S_5.out.cell 0 4 rfl rfl, S_5.out.cell 0 5 rfl rfl, S_5.out.cell 0 6 rfl rfl, S_5.out.cell 0 7 rfl rfl, S_5.out.cell 0 8 rfl rfl, S_5.out.cell 0 9 rfl rfl, S_5.out.cell 0 10 rfl rfl, (S_5.out.below.cell (p := ⟨g3, o3 + qa * 6, none⟩) hg2).trans y_0, (S_5.out.below.cell (p := ⟨g3, o3 + qa * 6 + 1, none⟩) hg2).trans y_1, (S_5.out.below.cell (p := ⟨g3, o3 + qa * 6 + 2, none⟩) hg2).trans y_2, (S_5.out.below.cell (p := ⟨g3, o3 + qa * 6 + 3, none⟩) hg2).trans y_3, (S_5.out.below.cell (p := ⟨g3, o3 + qa * 6 + 4, none⟩) hg2).trans y_4, (S_5.out.below.cell (p := ⟨g3, o3 + qa * 6 + 5, none⟩) hg2).trans y_5, (S_5.out.below.cell (p := ⟨g3, o3 + qb * 6, none⟩) hg2).trans x_0, (S_5.out.below.cell (p := ⟨g3, o3 + qb * 6 + 1, none⟩) hg2).trans x_1, (S_5.out.below.cell (p := ⟨g3, o3 + qb * 6 + 2, none⟩) hg2).trans x_2, (S_5.out.below.cell (p := ⟨g3, o3 + qb * 6 + 3, none⟩) hg2).trans x_3, (S_5.out.below.cell (p := ⟨g3, o3 + qb * 6 + 4, none⟩) hg2).trans x_4, (S_5.out.below.cell (p := ⟨g3, o3 + qb * 6 + 5, none⟩) hg2).trans x_5⟩) (fun hHeld12 => ?_)
          clear hK K
          try simp only [pm, s0, sS]
          refine wpAnyH_ready (rs := [13]) (by kernel_rfl) (by simp) ?_
          refine AllReadyH.cons (o := ⟨some 46, .call { callee := .value (.func 39), args := #[.tmp 33, .tmp 45], argTypes := #[37, 37] }, 37, "l11_batch.go:61", #[⟨0, .data⟩, ⟨12, .data⟩, ⟨12, .chain⟩], none⟩) rfl (fun K hK => ?_) AllReadyH.nil
          go_simp
          go_at_call 39
          refine (plus_f X (leF (qa : Int) (qb : Int) ZP ZQ ZR GP GQ UP UQ) (.slice Ax nx cx) (.slice Bx mx dx) (.slice A7 n7 c7) (.slice B7 m7 d7) _ (HX.out ▸ teSum_good _ _) (leF_good _ _ _ _ _ _ _ _ _) (S_5.out.fr 1 0 rfl rfl rfl) (S_5.out.fr 0 0 rfl rfl rfl)).mono ?_
          rintro e w8 ⟨v8, u8, rfl, ho, hb⟩
          obtain ⟨A8, n8, c8, rfl⟩ := (ho.at_ 0 rfl).shape3
          obtain ⟨B8, m8, d8, rfl⟩ := (ho.at_ 1 rfl).shape3
          have S_6 := Lib.hid (S_5.out.rows ho hb)
          clear S_5 ho hb
          refine hK.out _ _ (⟨S_6.out.cell 0 0 rfl rfl, S_6.out.cell 0 1 rfl rfl, S_6.out.cell 0 2 rfl rfl, S_6.out.cell 0 3 rfl rfl, S_6.out.cell 0 4 rfl rfl, S_6.out.cell 0 5 rfl rfl, S_6.out.cell 0 6 rfl rfl, S_6.out.cell 0 7 rfl rfl, S_6.out.cell 0 8 rfl rfl, S_6.out.cell 0 9 rfl rfl, S_6.out.cell 0 10 rfl rfl, (S_6.out.below.cell (p := ⟨g3, o3 + qa * 6, none⟩) hg2).trans y_0, (S_6.out.below.cell (p := ⟨g3, o3 + qa * 6 + 1, none⟩) hg2).trans y_1, (S_6.out.below.cell (p := ⟨g3, o3 + qa * 6 + 2, none⟩) hg2).trans y_2, (S_6.out.below.cell (p := ⟨g3, o3 + qa * 6 + 3, none⟩) hg2).trans y_3, (S_6.out.below.cell (p := ⟨g3, o3 + qa * 6 + 4, none⟩) hg2).trans y_4, (S_6.out.below.cell (p := ⟨g3, o3 + qa * 6 + 5, none⟩) hg2).trans y_5, (S_6.out.below.cell (p := ⟨g3, o3 + qb * 6, none⟩) hg2).trans x_0, (S_6.out.below.cell (p := ⟨g3, o3 + qb * 6 + 1, none⟩) hg2).trans x_1, (S_6.out.below.cell (p := ⟨g3, o3 + qb * 6 + 2, none⟩) hg2).trans x_2, (S_6.out.below.cell (p := ⟨g3, o3 + qb * 6 + 3, none⟩) hg2).trans x_3, (S_6.out.below.cell (p := ⟨g3, o3 + qb * 6 + 4, none⟩) hg2).trans x_4, (S_6.out.below.cell (p := ⟨g3, o3 + qb * 6 + 5, none⟩) hg2).trans x_5⟩) (fun hHeld13 => ?_)
          clear hK K
          try simp only [pm, s0, sS]
          refine wpAnyH_ready (rs := [14]) (by kernel_rfl) (by simp) ?_
          refine AllReadyH.cons (o := ⟨none, .store 37 (.tmp 6) (.tmp 46), 0, "l11_batch.go:61", #[⟨13, .data⟩, ⟨13, .chain⟩, ⟨0, .phase⟩, ⟨1, .phase⟩, ⟨2, .phase⟩, ⟨3, .phase⟩, ⟨4, .phase⟩, ⟨5, .phase⟩, ⟨6, .phase⟩, ⟨7, .phase⟩, ⟨8, .phase⟩, ⟨9, .phase⟩, ⟨10, .phase⟩, ⟨11, .phase⟩, ⟨12, .phase⟩, ⟨13, .phase⟩], none⟩) rfl (fun K hK => ?_) AllReadyH.nil
          rw [if_pos (by rfl)]
          refine wp_store_mid _ _ _ rfl _ _ (List.toArray [.bool (X.add (leF (qa : Int) (qb : Int) ZP ZQ ZR GP GQ UP UQ)).s, (.slice A8 n8 c8), (.slice B8 m8 d8)]) rfl rfl (S_6.out.thereT 1 rfl rfl) (size_ratT) (all_oneCell_toArray (cs := [.bool (X.add (leF (qa : Int) (qb : Int) ZP ZQ ZR GP GQ UP UQ)).s, (.slice A8 n8 c8), (.slice B8 m8 d8)]) (List.all_eq_true.mp rfl)) ?_
          simp only [Act.put]
          have S_7 := Lib.hid (S_6.out.setKitT 1 [.bool (X.add (leF (qa : Int) (qb : Int) ZP ZQ ZR GP GQ UP UQ)).s, (.slice A8 n8 c8), (.slice B8 m8 d8)] rfl rfl)
          clear S_6
          refine hK.out _ _ (⟨S_7.out.cell 0 0 rfl rfl, S_7.out.cell 0 1 rfl rfl, S_7.out.cell 0 2 rfl rfl, S_7.out.cell 0 3 rfl rfl, S_7.out.cell 0 4 rfl rfl, S_7.out.cell 0 5 rfl rfl, S_7.out.cell 0 6 rfl rfl, S_7.out.cell 0 7 rfl rfl, S_7.out.cell 0 8 rfl rfl, S_7.out.cell 0 9 rfl rfl, S_7.out.cell 0 10 rfl rfl, (S_7.out.below.cell (p := ⟨g3, o3 + qa * 6, none⟩) hg2).trans y_0, (S_7.out.below.cell (p := ⟨g3, o3 + qa * 6 + 1, none⟩) hg2).trans y_1, (S_7.out.below.cell (p := ⟨g3, o3 + qa * 6 + 2, none⟩) hg2).trans y_2, (S_7.out.below.cell (p := ⟨g3, o3 + qa * 6 + 3, none⟩) hg2).trans y_3, (S_7.out.below.cell (p := ⟨g3, o3 + qa * 6 + 4, none⟩) hg2).trans y_4, (S_7.out.below.cell (p := ⟨g3, o3 + qa * 6 + 5, none⟩) hg2).trans y_5, (S_7.out.below.cell (p := ⟨g3, o3 + qb * 6, none⟩) hg2).trans x_0, (S_7.out.below.cell (p := ⟨g3, o3 + qb * 6 + 1, none⟩) hg2).trans x_1, (S_7.out.below.cell (p := ⟨g3, o3 + qb * 6 + 2, none⟩) hg2).trans x_2, (S_7.out.below.cell (p := ⟨g3, o3 + qb * 6 + 3, none⟩) hg2).trans x_3, (S_7.out.below.cell (p := ⟨g3, o3 + qb * 6 + 4, none⟩) hg2).trans x_4, (S_7.out.below.cell (p := ⟨g3, o3 + qb * 6 + 5, none⟩) hg2).trans x_5⟩) (fun hHeld14 => ?_)
          clear hK K
          try simp only [pm, s0, sS]
          refine wpAnyH_done (by kernel_rfl) ?_ _
          refine NoPanic.normal ?_
          go_wp2
          have E1 : X.add (leF (qa : Int) (qb : Int) ZP ZQ ZR GP GQ UP UQ) = teSum (zs.take (k + 1)) (dats ps) := by rw [teSum_step HZ.out, HX.out]; show _ = X.add (leF (qa : Int) (qb : Int) ZP ZQ ZR (tX (tAt (dats ps) (qa : Int))) (tY (tAt (dats ps) (qa : Int))) (tX (tAt (dats ps) (qb : Int))) (tY (tAt (dats ps) (qb : Int)))); rw [HG.out, HU.out]; rfl
          exact ⟨⟨k + 1, _, _, _, by omega, by first | rfl | go_num, HI2.out, E1.symm, ((S_7.out.drop 2).drop 1).dropBox 0⟩, by simp [intOf]; omega⟩
        refine AllReadyH.cons (o := ⟨some 45, .call { callee := .value (.func 40), args := #[.tmp 34, .tmp 39, .tmp 44], argTypes := #[78, 83, 83] }, 37, "l11_batch.go:61", #[⟨1, .data⟩, ⟨6, .data⟩, ⟨11, .data⟩], none⟩) rfl (fun K hK => ?_) ?_
        · go_simp
          go_at_call 40
          refine (linkEnergy_i (qa : Int) (qb : Int) ZP ZQ ZR (.slice a0 n0 c0) (.slice a1 n1 c1) (.slice a2 n2 c2) (.slice a3 n3 c3) (.slice a4 n4 c4) (.slice a5 n5 c5) GP GQ UP UQ (.slice e0 m0 j0) (.slice e1 m1 j1) (.slice e2 m2 j2) (.slice e3 m3 j3) (.slice f0 o0_ h0_) (.slice f1 o1_ h1_) (.slice f2 o2_ h2_) (.slice f3 o3_ h3_) _ (HR.out.below S_4.out.drew.below) ⟨HRY.out.below S_4.out.drew.below (GP, .slice e0 m0 j0, .slice e1 m1 j1) (by simp), HRY.out.below S_4.out.drew.below (GQ, .slice e2 m2 j2, .slice e3 m3 j3) (by simp)⟩ ⟨HRX.out.below S_4.out.drew.below (UP, .slice f0 o0_ h0_, .slice f1 o1_ h1_) (by simp), HRX.out.below S_4.out.drew.below (UQ, .slice f2 o2_ h2_, .slice f3 o3_ h3_) (by simp)⟩).mono ?_
          rintro e w7 ⟨v7, u7, rfl, ho, hb⟩
          obtain ⟨A7, n7, c7, rfl⟩ := (ho.at_ 0 rfl).shape3
          obtain ⟨B7, m7, d7, rfl⟩ := (ho.at_ 1 rfl).shape3
          have S_5 := Lib.hid (S_4.out.drew.rows ho hb)
          clear S_4 ho hb
          refine hK.out _ _ (⟨S_5.out.cell 0 0 rfl rfl, S_5.out.cell 0 1 rfl rfl, S_5.out.cell 0 2 rfl rfl, S_5.out.cell 0 3 rfl rfl, S_5.out.cell 0 4 rfl rfl, S_5.out.cell 0 5 rfl rfl, S_5.out.cell 0 6 rfl rfl, S_5.out.cell 0 7 rfl rfl, S_5.out.cell 0 8 rfl rfl, S_5.out.cell 0 9 rfl rfl, S_5.out.cell 0 10 rfl rfl, (S_5.out.below.cell (p := ⟨g3, o3 + qa * 6, none⟩) hg2).trans y_0, (S_5.out.below.cell (p := ⟨g3, o3 + qa * 6 + 1, none⟩) hg2).trans y_1, (S_5.out.below.cell (p := ⟨g3, o3 + qa * 6 + 2, none⟩) hg2).trans y_2, (S_5.out.below.cell (p := ⟨g3, o3 + qa * 6 + 3, none⟩) hg2).trans y_3, (S_5.out.below.cell (p := ⟨g3, o3 + qa * 6 + 4, none⟩) hg2).trans y_4, (S_5.out.below.cell (p := ⟨g3, o3 + qa * 6 + 5, none⟩) hg2).trans y_5, (S_5.out.below.cell (p := ⟨g3, o3 + qb * 6, none⟩) hg2).trans x_0, (S_5.out.below.cell (p := ⟨g3, o3 + qb * 6 + 1, none⟩) hg2).trans x_1, (S_5.out.below.cell (p := ⟨g3, o3 + qb * 6 + 2, none⟩) hg2).trans x_2, (S_5.out.below.cell (p := ⟨g3, o3 + qb * 6 + 3, none⟩) hg2).trans x_3, (S_5.out.below.cell (p := ⟨g3, o3 + qb * 6 + 4, none⟩) hg2).trans x_4, (S_5.out.below.cell (p := ⟨g3, o3 + qb * 6 + 5, none⟩) hg2).trans x_5⟩) (fun hHeld12 => ?_)
          clear hK K
          try simp only [pm, s0, sS]
          refine wpAnyH_ready (rs := [0]) (by kernel_rfl) (by simp) ?_
          refine AllReadyH.cons (o := ⟨some 33, .load 37 (.tmp 6), 37, "l11_batch.go:61", #[], none⟩) rfl (fun K hK => ?_) AllReadyH.nil
          have hl_0 := S_5.out.cell 1 0 rfl rfl
          have hl_1 := S_5.out.cell 1 1 rfl rfl
          have hl_2 := S_5.out.cell 1 2 rfl rfl
          go_simp
          clear hl_0 hl_1 hl_2
          refine hK.out _ _ (⟨S_5.out.cell 0 0 rfl rfl, S_5.out.cell 0 1 rfl rfl, S_5.out.cell 0 2 rfl rfl, S_5.out.cell 0 3 rfl rfl, S_5.out.cell 0 4 rfl rfl, S_5.out.cell 0 5 rfl rfl, S_5.out.cell 0 6 rfl rfl, S_5.out.cell 0 7 rfl rfl, S_5.out.cell 0 8 rfl rfl, S_5.out.cell 0 9 rfl rfl, S_5.out.cell 0 10 rfl rfl, (S_5.out.below.cell (p := ⟨g3, o3 + qa * 6, none⟩) hg2).trans y_0, (S_5.out.below.cell (p := ⟨g3, o3 + qa * 6 + 1, none⟩) hg2).trans y_1, (S_5.out.below.cell (p := ⟨g3, o3 + qa * 6 + 2, none⟩) hg2).trans y_2, (S_5.out.below.cell (p := ⟨g3, o3 + qa * 6 + 3, none⟩) hg2).trans y_3, (S_5.out.below.cell (p := ⟨g3, o3 + qa * 6 + 4, none⟩) hg2).trans y_4, (S_5.out.below.cell (p := ⟨g3, o3 + qa * 6 + 5, none⟩) hg2).trans y_5, (S_5.out.below.cell (p := ⟨g3, o3 + qb * 6, none⟩) hg2).trans x_0, (S_5.out.below.cell (p := ⟨g3, o3 + qb * 6 + 1, none⟩) hg2).trans x_1, (S_5.out.below.cell (p := ⟨g3, o3 + qb * 6 + 2, none⟩) hg2).trans x_2, (S_5.out.below.cell (p := ⟨g3, o3 + qb * 6 + 3, none⟩) hg2).trans x_3, (S_5.out.below.cell (p := ⟨g3, o3 + qb * 6 + 4, none⟩) hg2).trans x_4, (S_5.out.below.cell (p := ⟨g3, o3 + qb * 6 + 5, none⟩) hg2).trans x_5⟩) (fun hHeld0 => ?_)
          clear hK K
          try simp only [pm, s0, sS]
          refine wpAnyH_ready (rs := [13]) (by kernel_rfl) (by simp) ?_
          refine AllReadyH.cons (o := ⟨some 46, .call { callee := .value (.func 39), args := #[.tmp 33, .tmp 45], argTypes := #[37, 37] }, 37, "l11_batch.go:61", #[⟨0, .data⟩, ⟨12, .data⟩, ⟨12, .chain⟩], none⟩) rfl (fun K hK => ?_) AllReadyH.nil
          go_simp
          go_at_call 39
          refine (plus_f X (leF (qa : Int) (qb : Int) ZP ZQ ZR GP GQ UP UQ) (.slice Ax nx cx) (.slice Bx mx dx) (.slice A7 n7 c7) (.slice B7 m7 d7) _ (HX.out ▸ teSum_good _ _) (leF_good _ _ _ _ _ _ _ _ _) (S_5.out.fr 1 0 rfl rfl rfl) (S_5.out.fr 0 0 rfl rfl rfl)).mono ?_
          rintro e w8 ⟨v8, u8, rfl, ho, hb⟩
          obtain ⟨A8, n8, c8, rfl⟩ := (ho.at_ 0 rfl).shape3
          obtain ⟨B8, m8, d8, rfl⟩ := (ho.at_ 1 rfl).shape3
          have S_6 := Lib.hid (S_5.out.rows ho hb)
          clear S_5 ho hb
          refine hK.out _ _ (⟨S_6.out.cell 0 0 rfl rfl, S_6.out.cell 0 1 rfl rfl, S_6.out.cell 0 2 rfl rfl, S_6.out.cell 0 3 rfl rfl, S_6.out.cell 0 4 rfl rfl, S_6.out.cell 0 5 rfl rfl, S_6.out.cell 0 6 rfl rfl, S_6.out.cell 0 7 rfl rfl, S_6.out.cell 0 8 rfl rfl, S_6.out.cell 0 9 rfl rfl, S_6.out.cell 0 10 rfl rfl, (S_6.out.below.cell (p := ⟨g3, o3 + qa * 6, none⟩) hg2).trans y_0, (S_6.out.below.cell (p := ⟨g3, o3 + qa * 6 + 1, none⟩) hg2).trans y_1, (S_6.out.below.cell (p := ⟨g3, o3 + qa * 6 + 2, none⟩) hg2).trans y_2, (S_6.out.below.cell (p := ⟨g3, o3 + qa * 6 + 3, none⟩) hg2).trans y_3, (S_6.out.below.cell (p := ⟨g3, o3 + qa * 6 + 4, none⟩) hg2).trans y_4, (S_6.out.below.cell (p := ⟨g3, o3 + qa * 6 + 5, none⟩) hg2).trans y_5, (S_6.out.below.cell (p := ⟨g3, o3 + qb * 6, none⟩) hg2).trans x_0, (S_6.out.below.cell (p := ⟨g3, o3 + qb * 6 + 1, none⟩) hg2).trans x_1, (S_6.out.below.cell (p := ⟨g3, o3 + qb * 6 + 2, none⟩) hg2).trans x_2, (S_6.out.below.cell (p := ⟨g3, o3 + qb * 6 + 3, none⟩) hg2).trans x_3, (S_6.out.below.cell (p := ⟨g3, o3 + qb * 6 + 4, none⟩) hg2).trans x_4, (S_6.out.below.cell (p := ⟨g3, o3 + qb * 6 + 5, none⟩) hg2).trans x_5⟩) (fun hHeld13 => ?_)
          clear hK K
          try simp only [pm, s0, sS]
          refine wpAnyH_ready (rs := [14]) (by kernel_rfl) (by simp) ?_
          refine AllReadyH.cons (o := ⟨none, .store 37 (.tmp 6) (.tmp 46), 0, "l11_batch.go:61", #[⟨13, .data⟩, ⟨13, .chain⟩, ⟨0, .phase⟩, ⟨1, .phase⟩, ⟨2, .phase⟩, ⟨3, .phase⟩, ⟨4, .phase⟩, ⟨5, .phase⟩, ⟨6, .phase⟩, ⟨7, .phase⟩, ⟨8, .phase⟩, ⟨9, .phase⟩, ⟨10, .phase⟩, ⟨11, .phase⟩, ⟨12, .phase⟩, ⟨13, .phase⟩], none⟩) rfl (fun K hK => ?_) AllReadyH.nil
          rw [if_pos (by rfl)]
          refine wp_store_mid _ _ _ rfl _ _ (List.toArray [.bool (X.add (leF (qa : Int) (qb : Int) ZP ZQ ZR GP GQ UP UQ)).s, (.slice A8 n8 c8), (.slice B8 m8 d8)]) rfl rfl (S_6.out.thereT 1 rfl rfl) (size_ratT) (all_oneCell_toArray (cs := [.bool (X.add (leF (qa : Int) (qb : Int) ZP ZQ ZR GP GQ UP UQ)).s, (.slice A8 n8 c8), (.slice B8 m8 d8)]) (List.all_eq_true.mp rfl)) ?_
          simp only [Act.put]
          have S_7 := Lib.hid (S_6.out.setKitT 1 [.bool (X.add (leF (qa : Int) (qb : Int) ZP ZQ ZR GP GQ UP UQ)).s, (.slice A8 n8 c8), (.slice B8 m8 d8)] rfl rfl)
          clear S_6
          refine hK.out _ _ (⟨S_7.out.cell 0 0 rfl rfl, S_7.out.cell 0 1 rfl rfl, S_7.out.cell 0 2 rfl rfl, S_7.out.cell 0 3 rfl rfl, S_7.out.cell 0 4 rfl rfl, S_7.out.cell 0 5 rfl rfl, S_7.out.cell 0 6 rfl rfl, S_7.out.cell 0 7 rfl rfl, S_7.out.cell 0 8 rfl rfl, S_7.out.cell 0 9 rfl rfl, S_7.out.cell 0 10 rfl rfl, (S_7.out.below.cell (p := ⟨g3, o3 + qa * 6, none⟩) hg2).trans y_0, (S_7.out.below.cell (p := ⟨g3, o3 + qa * 6 + 1, none⟩) hg2).trans y_1, (S_7.out.below.cell (p := ⟨g3, o3 + qa * 6 + 2, none⟩) hg2).trans y_2, (S_7.out.below.cell (p := ⟨g3, o3 + qa * 6 + 3, none⟩) hg2).trans y_3, (S_7.out.below.cell (p := ⟨g3, o3 + qa * 6 + 4, none⟩) hg2).trans y_4, (S_7.out.below.cell (p := ⟨g3, o3 + qa * 6 + 5, none⟩) hg2).trans y_5, (S_7.out.below.cell (p := ⟨g3, o3 + qb * 6, none⟩) hg2).trans x_0, (S_7.out.below.cell (p := ⟨g3, o3 + qb * 6 + 1, none⟩) hg2).trans x_1, (S_7.out.below.cell (p := ⟨g3, o3 + qb * 6 + 2, none⟩) hg2).trans x_2, (S_7.out.below.cell (p := ⟨g3, o3 + qb * 6 + 3, none⟩) hg2).trans x_3, (S_7.out.below.cell (p := ⟨g3, o3 + qb * 6 + 4, none⟩) hg2).trans x_4, (S_7.out.below.cell (p := ⟨g3, o3 + qb * 6 + 5, none⟩) hg2).trans x_5⟩) (fun hHeld14 => ?_)
          clear hK K
          try simp only [pm, s0, sS]
          refine wpAnyH_done (by kernel_rfl) ?_ _
          refine NoPanic.normal ?_
          go_wp2
          have E1 : X.add (leF (qa : Int) (qb : Int) ZP ZQ ZR GP GQ UP UQ) = teSum (zs.take (k + 1)) (dats ps) := by rw [teSum_step HZ.out, HX.out]; show _ = X.add (leF (qa : Int) (qb : Int) ZP ZQ ZR (tX (tAt (dats ps) (qa : Int))) (tY (tAt (dats ps) (qa : Int))) (tX (tAt (dats ps) (qb : Int))) (tY (tAt (dats ps) (qb : Int)))); rw [HG.out, HU.out]; rfl
          exact ⟨⟨k + 1, _, _, _, by omega, by first | rfl | go_num, HI2.out, E1.symm, ((S_7.out.drop 2).drop 1).dropBox 0⟩, by simp [intOf]; omega⟩
        exact AllReadyH.nil
      · have S_5 := Lib.hid (R_0.out.alloc [.int .i64 ZA, .int .i64 ZB, .bool ZP.s, (.slice a0 n0 c0), (.slice a1 n1 c1), .bool ZQ.s, (.slice a2 n2 c2), (.slice a3 n3 c3), .bool ZR.s, (.slice a4 n4 c4), (.slice a5 n5 c5)] 78)
        clear R_0
        have hne_sum_p := S_5.out.ne 1 0 rfl rfl (by decide)
        have hne_p_sum := S_5.out.ne 0 1 rfl rfl (by decide)
        have hne_ret_p := S_5.out.ne 2 0 rfl rfl (by decide)
        have hne_p_ret := S_5.out.ne 0 2 rfl rfl (by decide)
        clear hk_sum_0_3 hk_sum_0_3f hk_sum_1_3 hk_sum_1_3f hk_sum_2_3 hk_sum_2_3f hk_ret_0_3 hk_ret_0_3f hk_ret_1_3 hk_ret_1_3f hk_ret_2_3 hk_ret_2_3f
        have hk_p_0_5 := S_5.out.cell 0 0 rfl rfl
        have hk_p_1_5 := S_5.out.cell 0 1 rfl rfl
        have hk_p_2_5 := S_5.out.cell 0 2 rfl rfl
        have hk_p_3_5 := S_5.out.cell 0 3 rfl rfl
        have hk_p_4_5 := S_5.out.cell 0 4 rfl rfl
        have hk_p_5_5 := S_5.out.cell 0 5 rfl rfl
        have hk_p_6_5 := S_5.out.cell 0 6 rfl rfl
        have hk_p_7_5 := S_5.out.cell 0 7 rfl rfl
        have hk_p_8_5 := S_5.out.cell 0 8 rfl rfl
        have hk_p_9_5 := S_5.out.cell 0 9 rfl rfl
        have hk_p_10_5 := S_5.out.cell 0 10 rfl rfl
        have hk_sum_0_5 := S_5.out.cell 1 0 rfl rfl
        have hk_sum_1_5 := S_5.out.cell 1 1 rfl rfl
        have hk_sum_2_5 := S_5.out.cell 1 2 rfl rfl
        have hk_ret_0_5 := S_5.out.cell 2 0 rfl rfl
        have hk_ret_1_5 := S_5.out.cell 2 1 rfl rfl
        have hk_ret_2_5 := S_5.out.cell 2 2 rfl rfl
        have HNO := Lib.hid (show ok = false by rw [← HOK.out, teAll_bad HZ.out (by rw [← Bool.not_eq_true, teIn_iff]; exact hin)]; rfl)
        have hin9 := hin
        clear hin
        by_cases hmn : (if ZB < ZA then ZB else ZA) < 0
        · clear hk_p_0_5 hk_p_1_5 hk_p_2_5 hk_p_3_5 hk_p_4_5 hk_p_5_5 hk_p_6_5 hk_p_7_5 hk_p_8_5 hk_p_9_5 hk_p_10_5 hk_sum_0_5 hk_sum_1_5 hk_sum_2_5 hk_ret_0_5 hk_ret_1_5 hk_ret_2_5
          have hk_ret_0_5 := S_5.out.cell 2 0 rfl rfl
          have hk_ret_0_5f := S_5.out.froz 2 0 rfl rfl
          have hk_ret_1_5 := S_5.out.cell 2 1 rfl rfl
          have hk_ret_1_5f := S_5.out.froz 2 1 rfl rfl
          have hk_ret_2_5 := S_5.out.cell 2 2 rfl rfl
          have hk_ret_2_5f := S_5.out.froz 2 2 rfl rfl
          go_wp2
          have SR := Lib.hid (S_5.out.setAll 2 [.bool false, .slice none 0 0, .slice none 0 0] rfl rfl)
          have hr0 := S_5.out.cell 2 0 rfl rfl
          have hr1 := S_5.out.cell 2 1 rfl rfl
          have hr2 := S_5.out.cell 2 2 rfl rfl
          exact bodyPost_ret (v := .tuple #[.agg #[.bool false, .slice none 0 0, .slice none 0 0], .bool false]) (by simp [results, Tryz.results15, go_sem, hr0, hr1, hr2]) rfl (OwnTE.no HNO.out SR.out)
        · have hmx : (m : Int) ≤ (if ZB > ZA then ZB else ZA) := by split <;> split at hmn <;> omega
          have hmx2 : ((if ZB > ZA then ZB else ZA) ≥ (m : Int)) := hmx
          clear hk_p_0_5 hk_p_1_5 hk_p_2_5 hk_p_3_5 hk_p_4_5 hk_p_5_5 hk_p_6_5 hk_p_7_5 hk_p_8_5 hk_p_9_5 hk_p_10_5 hk_sum_0_5 hk_sum_1_5 hk_sum_2_5 hk_ret_0_5 hk_ret_1_5 hk_ret_2_5
          have hk_ret_0_5 := S_5.out.cell 2 0 rfl rfl
          have hk_ret_0_5f := S_5.out.froz 2 0 rfl rfl
          have hk_ret_1_5 := S_5.out.cell 2 1 rfl rfl
          have hk_ret_1_5f := S_5.out.froz 2 1 rfl rfl
          have hk_ret_2_5 := S_5.out.cell 2 2 rfl rfl
          have hk_ret_2_5f := S_5.out.froz 2 2 rfl rfl
          go_wp2
          have SR := Lib.hid (S_5.out.setAll 2 [.bool false, .slice none 0 0, .slice none 0 0] rfl rfl)
          have hr0 := S_5.out.cell 2 0 rfl rfl
          have hr1 := S_5.out.cell 2 1 rfl rfl
          have hr2 := S_5.out.cell 2 2 rfl rfl
          exact bodyPost_ret (v := .tuple #[.agg #[.bool false, .slice none 0 0, .slice none 0 0], .bool false]) (by simp [results, Tryz.results15, go_sem, hr0, hr1, hr2]) rfl (OwnTE.no HNO.out SR.out)
    · obtain rfl : k = n := by omega
      have hl : zs.take k = zs := List.take_of_length_le (by rw [HL.out]; exact Nat.le_refl _)
      obtain rfl : XX = X := by rw [← HX.out, hl]; exact HXX.out.symm
      have HAI := Lib.hid (show teAll zs m = true from teAll_iff.mpr (by rw [HL.out]; exact HI.out))
      clear hl
      clear hk_sum_0_3 hk_sum_0_3f hk_sum_1_3 hk_sum_1_3f hk_sum_2_3 hk_sum_2_3f hk_ret_0_3 hk_ret_0_3f hk_ret_1_3 hk_ret_1_3f hk_ret_2_3 hk_ret_2_3f
      have hk_sum_0_5 := R_0.out.cell 0 0 rfl rfl
      have hk_sum_1_5 := R_0.out.cell 0 1 rfl rfl
      have hk_sum_2_5 := R_0.out.cell 0 2 rfl rfl
      go_wp2_with fail
      refine (isValid_f XX (.slice Ax nx cx) (.slice Bx mx dx) _ (R_0.out.fr 0 0 rfl rfl rfl)).mono ?_
      rintro e w9 ⟨rfl, hb⟩
      have S_6 := Lib.hid (R_0.out.call hb)
      clear R_0
      clear hb
      by_cases h5 : XX.ok = true
      · have HYS := Lib.hid (show ok = true by rw [← HOK.out, h5, HAI.out]; rfl)
        rw [h5]
        clear h5
        clear hk_sum_0_5 hk_sum_1_5 hk_sum_2_5
        have hk_sum_0_6 := S_6.out.cell 0 0 rfl rfl
        have hk_sum_1_6 := S_6.out.cell 0 1 rfl rfl
        have hk_sum_2_6 := S_6.out.cell 0 2 rfl rfl
        have hk_ret_0_6 := S_6.out.cell 1 0 rfl rfl
        have hk_ret_0_6f := S_6.out.froz 1 0 rfl rfl
        have hk_ret_1_6 := S_6.out.cell 1 1 rfl rfl
        have hk_ret_1_6f := S_6.out.froz 1 1 rfl rfl
        have hk_ret_2_6 := S_6.out.cell 1 2 rfl rfl
        have hk_ret_2_6f := S_6.out.froz 1 2 rfl rfl
        go_wp2
        have SR := Lib.hid (S_6.out.setAll 1 [.bool XX.s, (.slice Ax nx cx), (.slice Bx mx dx)] rfl rfl)
        have hr0 := S_6.out.cell 1 0 rfl rfl
        have hr1 := S_6.out.cell 1 1 rfl rfl
        have hr2 := S_6.out.cell 1 2 rfl rfl
        exact bodyPost_ret (v := .tuple #[.agg #[.bool XX.s, (.slice Ax nx cx), (.slice Bx mx dx)], .bool true]) (by simp [results, Tryz.results15, go_sem, hr0, hr1, hr2]) rfl (OwnTE.yes HYS.out ⟨_, _, rfl, SR.out.own 0 rfl, SR.out.below⟩)
      · rw [Bool.not_eq_true] at h5
        have HNO := Lib.hid (show ok = false by rw [← HOK.out, h5]; simp)
        rw [h5]
        clear h5
        clear hk_sum_0_5 hk_sum_1_5 hk_sum_2_5
        have hk_ret_0_6 := S_6.out.cell 1 0 rfl rfl
        have hk_ret_0_6f := S_6.out.froz 1 0 rfl rfl
        have hk_ret_1_6 := S_6.out.cell 1 1 rfl rfl
        have hk_ret_1_6f := S_6.out.froz 1 1 rfl rfl
        have hk_ret_2_6 := S_6.out.cell 1 2 rfl rfl
        have hk_ret_2_6f := S_6.out.froz 1 2 rfl rfl
        go_wp2
        have SR := Lib.hid (S_6.out.setAll 1 [.bool false, .slice none 0 0, .slice none 0 0] rfl rfl)
        have hr0 := S_6.out.cell 1 0 rfl rfl
        have hr1 := S_6.out.cell 1 1 rfl rfl
        have hr2 := S_6.out.cell 1 2 rfl rfl
        exact bodyPost_ret (v := .tuple #[.agg #[.bool false, .slice none 0 0, .slice none 0 0], .bool false]) (by simp [results, Tryz.results15, go_sem, hr0, hr1, hr2]) rfl (OwnTE.no HNO.out SR.out)
end Go.Proofs.YtaboodioabopnaaGreat
