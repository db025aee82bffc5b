/- Links: two links merged, both sides. Conditions: none. -/
import Derived.Test.YtnmmgjddaidpaaaGreatMLkBase
import Derived.Test.YtnmmgjddaidpaaaGreatMHand
namespace Go.Proofs.YtnmmgjddaidpaaaGreat
open Go.RowKit Nt Fr
set_option linter.unusedVariables false
theorem St.allocE2 {w0 w : World} {bs : List (Nat × List Value)} {cs : List Chunk} (h : St w0 w bs cs) (us vs : List Value) (U V : TypeId) : St w0 ((w.alloc (.cells us.toArray U)).alloc (.cells vs.toArray V)) (bs ++ [((w.alloc (.cells us.toArray U)).heap.size,vs),(w.heap.size,us)]) cs := by
 have h' := (h.allocE us U).allocE vs V
 have hp : ((bs ++ [(w.heap.size, us)]) ++ [((w.alloc (.cells us.toArray U)).heap.size, vs)]).Perm (bs ++ [((w.alloc (.cells us.toArray U)).heap.size, vs), (w.heap.size, us)]) := by
   rw [List.append_assoc]; exact (List.Perm.swap _ _ []).append_left bs
 exact ⟨h'.below, fun p hp' => h'.box p (hp.symm.subset hp'), h'.row, (hp.pairwise_iff (fun {p q} (e : p.1 ≠ q.1) => e.symm)).mp h'.bb, h'.cc, fun p hp' => h'.br p (hp.symm.subset hp')⟩
theorem setCells_kit (b : Nat) (us : List Value) (w : World) (j : Nat) : w.setCells b j us = setCells w b j us := by
 induction us generalizing w j with
 | nil => rfl
 | cons v r ih => exact ih _ _
theorem below_setCells {B b : Nat} {a w : World} (us : List Value) (j : Nat) (hb : B ≤ b) (h : Below B a w) : Below B a (setCells w b j us) := by
 induction us generalizing w j with
 | nil => exact h
 | cons v r ih => exact ih _ (h.setCell (p := ⟨b, j, none⟩) hb v)
theorem St.stored {P : Program} {w0 w wr : World} {bs : List (Nat × List Value)} {cs : List Chunk} (h : St w0 w bs cs) (k : Nat) {b : Nat} {vs : List Value} (us : List Value) (e : bs[k]? = some (b,vs)) (hl : us.length = vs.length) (h1 : (us.all fun v => v.oneCell') = true) (hb : Below wr.heap.size wr w) (hge : wr.heap.size ≤ b) :
   ∃ w',(storeCells ⟨b,0,none⟩ us 0).run P w = .ok () w' ∧ St w0 w' (bs.set k (b,us)) cs ∧ Below wr.heap.size wr w' := by
 refine ⟨_, ?_, h.setAll k us e hl, below_setCells us 0 hge hb⟩
 rw [← setCells_kit]
 have hv : ∀ j, j < us.length → ∃ v, vs[j]? = some v := fun j hj => ⟨vs[j]'(by omega), List.getElem?_eq_getElem _⟩
 have := run_storeCells_cells (P := P) b 0 us 0 w (fun j hj => by obtain ⟨v, hv⟩ := hv j hj; simp [h.cell k j e hv]) (fun j hj => by obtain ⟨v, hv⟩ := hv j hj; simpa using h.froz k j e hv) (fun v hv => List.all_eq_true.mp h1 v hv)
 simpa using this
theorem St.setKit {w0 w : World} {bs : List (Nat × List Value)} {cs : List Chunk} (h : St w0 w bs cs) (k : Nat) {b : Nat} {vs : List Value} (us : List Value) (e : bs[k]? = some (b,vs)) (hl : us.length = vs.length) : St w0 (w.setCells b 0 us) (bs.set k (b,us)) cs := by rw [setCells_kit]; exact h.setAll k us e hl
theorem St.there_ {w0 w : World} {bs : List (Nat × List Value)} {cs : List Chunk} (h : St w0 w bs cs) (k : Nat) {b n : Nat} {vs : List Value} (e : bs[k]? = some (b,vs)) (hl : vs.length = n) : w.there b 0 n := fun j hj => by
 have hv : vs[j]? = some (vs[j]'(by omega)) := List.getElem?_eq_getElem (by omega)
 rw [Nat.zero_add]
 exact ⟨by rw [h.cell k j e hv]; rfl, h.froz k j e hv⟩
theorem size_link : (Tryz.prog.info? 34).map (·.size) = some 11 := by kernel_rfl
theorem size_rat : (Tryz.prog.info? 32).map (·.size) = some 3 := by kernel_rfl
theorem St.allocE_at {w0 w : World} {bs : List (Nat × List Value)} {cs : List Chunk} (h : St w0 w bs cs) {b : Nat} (vs : List Value) (T : TypeId) (e : w.heap.size = b) : St w0 (w.alloc (.cells vs.toArray T)) (bs ++ [(b,vs)]) cs := e ▸ h.allocE vs T
theorem St.allocE2_at {w0 w : World} {bs : List (Nat × List Value)} {cs : List Chunk} (h : St w0 w bs cs) {b c : Nat} (us vs : List Value) (U V : TypeId) (e : w.heap.size = b) (e2 : b + 1 = c) : St w0 ((w.alloc (.cells us.toArray U)).alloc (.cells vs.toArray V)) (bs ++ [(c,vs),(b,us)]) cs := by
 have h' := h.allocE2 us vs U V
 rw [show (w.alloc (.cells us.toArray U)).heap.size = c by simp [e, e2], e] at h'
 exact h'
def pk (ok : Bool) (F : Fr) : Fr := if ok = true then F else Fr.zero
def pi (ok : Bool) (x : Int) : Int := if ok = true then x else 0
theorem pk_good {ok : Bool} {F : Fr} (h : F.Good) : (pk ok F).Good := by unfold pk; split; exact h; exact .inr rfl
def mgX (P Q V U : Fr) : Fr := ((P.mul Q).add (V.mul U)).div (P.add V)
def mgE (P Q R V U T : Fr) : Fr := ((P.mul V).div (P.add V)).mul ((Q.sub U).sq (R.sub T))
def mwOk (A B : Int) (P Q R V U T : Fr) : Bool := okK A B (P.add V) (mgX P Q V U) (mgX P R V T) && (mgE P Q R V U T).ok
def mgOk (A B C E : Int) (P Q R V U T : Fr) : Bool := (okK A B P Q R && okK C E V U T && (decide (A = C) && decide (B = E))) && mwOk A B P Q R V U T
def OwnM (A B : Int) (P Q R E : Fr) (ok : Bool) (w : World) (en : Ending) (w' : World) : Prop :=
 ∃ p0 p1 q0 q1 r0 r1 e0 e1, en = .returned (.tuple #[.agg #[.int .i64 A, .int .i64 B, .bool P.s, p0, p1, .bool Q.s, q0, q1, .bool R.s, r0, r1], .agg #[.bool E.s, e0, e1], .bool ok]) ∧ Owns w' w.heap.size (rowsK P Q R p0 p1 q0 q1 r0 r1 ++ [(e0, ints E.xs), (e1, ints E.ys)]) ∧ Below w.heap.size w w'
def OwnMG (ok : Bool) (A B : Int) (P Q R E : Fr) (w : World) (en : Ending) (w' : World) : Prop := OwnM (pi ok A) (pi ok B) (pk ok P) (pk ok Q) (pk ok R) (pk ok E) ok w en w'
theorem OwnMG.yes {ok : Bool} {A B : Int} {P Q R E : Fr} {w w' : World} {e : Ending} (h : ok = true) (hm : OwnM A B P Q R E true w e w') : OwnMG ok A B P Q R E w e w' := by subst h; exact hm
theorem OwnMG.no {ok : Bool} {A B : Int} {P Q R E : Fr} {w w' : World} {bs : List (Nat × List Value)} {cs : List Chunk} (h : ok = false) (hs : St w w' bs cs) : OwnMG ok A B P Q R E w (.returned (.tuple #[.agg #[.int .i64 0,.int .i64 0,.bool false,.slice none 0 0,.slice none 0 0,.bool false,.slice none 0 0,.slice none 0 0,.bool false,.slice none 0 0,.slice none 0 0],.agg #[.bool false,.slice none 0 0,.slice none 0 0],.bool false])) w' := by
 subst h; exact ⟨_, _, _, _, _, _, _, _, rfl, Owns.nils _ _ 8, hs.below⟩
set_option maxRecDepth 100000 in
set_option maxHeartbeats 40000000 in
theorem mergedWith_f (A B : Int) (P Q R : Fr) (p0 p1 q0 q1 r0 r1 : Value) (C E : Int) (V U T : Fr) (v0 v1 u0 u1 t0 t1 : Value) (w : World) (hk : okK A B P Q R = true) (hl : okK C E V U T = true) (hL : LkA w P Q R p0 p1 q0 q1 r0 r1) (hM : LkA w V U T v0 v1 u0 u1 t0 t1) :
   Calls Tryz.prog 39 #[.agg #[.int .i64 A, .int .i64 B, .bool P.s, p0, p1, .bool Q.s, q0, q1, .bool R.s, r0, r1], .agg #[.int .i64 C, .int .i64 E, .bool V.s, v0, v1, .bool U.s, u0, u1, .bool T.s, t0, t1]] w (OwnMG (mwOk A B P Q R V U T) A B (P.add V) (mgX P Q V U) (mgX P R V T) (mgE P Q R V U T) w) := by
 have hv := okK_parts hk
 have hw := okK_parts hl
 clear hk hl
 have GP := Lib.hid (show P.Good from .inl (sgn_ok hv.2.2.2.1))
 have GQ := Lib.hid (show Q.Good from .inl (hv.2.2.2.2.1))
 have GR := Lib.hid (show R.Good from .inl (hv.2.2.2.2.2))
 have GV := Lib.hid (show V.Good from .inl (sgn_ok hw.2.2.2.1))
 have GU := Lib.hid (show U.Good from .inl (hw.2.2.2.2.1))
 have GT := Lib.hid (show T.Good from .inl (hw.2.2.2.2.2))
 clear hv hw
 obtain ⟨Ap, np, cp, Bp, mp, dp, rfl, rfl⟩ := hL.p.shape
 obtain ⟨Av, nv, cv, Bv, mv, dv, rfl, rfl⟩ := hM.p.shape
 have HL := Lib.hid hL
 have HM := Lib.hid hM
 clear hL hM
 obtain ⟨S, hS⟩ : ∃ z, P.add V = z := ⟨_, rfl⟩
 obtain ⟨M1, hM1⟩ : ∃ z, P.mul Q = z := ⟨_, rfl⟩
 obtain ⟨M2, hM2⟩ : ∃ z, V.mul U = z := ⟨_, rfl⟩
 obtain ⟨N1, hN1⟩ : ∃ z, M1.add M2 = z := ⟨_, rfl⟩
 obtain ⟨X, hX⟩ : ∃ z, N1.div S = z := ⟨_, rfl⟩
 obtain ⟨M3, hM3⟩ : ∃ z, P.mul R = z := ⟨_, rfl⟩
 obtain ⟨M4, hM4⟩ : ∃ z, V.mul T = z := ⟨_, rfl⟩
 obtain ⟨N2, hN2⟩ : ∃ z, M3.add M4 = z := ⟨_, rfl⟩
 obtain ⟨Y, hY⟩ : ∃ z, N2.div S = z := ⟨_, rfl⟩
 obtain ⟨D1, hD1⟩ : ∃ z, Q.sub U = z := ⟨_, rfl⟩
 obtain ⟨D2, hD2⟩ : ∃ z, R.sub T = z := ⟨_, rfl⟩
 obtain ⟨H, hH⟩ : ∃ z, D1.sq D2 = z := ⟨_, rfl⟩
 obtain ⟨W1, hW1⟩ : ∃ z, P.mul V = z := ⟨_, rfl⟩
 obtain ⟨W2, hW2⟩ : ∃ z, W1.div S = z := ⟨_, rfl⟩
 obtain ⟨G, hG⟩ : ∃ z, W2.mul H = z := ⟨_, rfl⟩
 have eX : mgX P Q V U = X := by unfold mgX; rw [hM1, hM2, hN1, hS, hX]
 have eY : mgX P R V T = Y := by unfold mgX; rw [hM3, hM4, hN2, hS, hY]
 have eG : mgE P Q R V U T = G := by unfold mgE; rw [hW1, hS, hW2, hD1, hD2, hH, hG]
 obtain ⟨ok, hok⟩ : ∃ z, mwOk A B P Q R V U T = z := ⟨_, rfl⟩
 have hokd : (okK A B S X Y && G.ok) = ok := by rw [← hok]; unfold mwOk; rw [eX, eY, eG, hS]
 rw [hok, eX, eY, eG, hS]
 have HOK := Lib.hid hokd
 clear hok hokd eX eY eG
 have HS := Lib.hid hS
 clear hS
 have HM1 := Lib.hid hM1
 clear hM1
 have HM2 := Lib.hid hM2
 clear hM2
 have HN1 := Lib.hid hN1
 clear hN1
 have HX := Lib.hid hX
 clear hX
 have HM3 := Lib.hid hM3
 clear hM3
 have HM4 := Lib.hid hM4
 clear hM4
 have HN2 := Lib.hid hN2
 clear hN2
 have HY := Lib.hid hY
 clear hY
 have HD1 := Lib.hid hD1
 clear hD1
 have HD2 := Lib.hid hD2
 clear hD2
 have HH := Lib.hid hH
 clear hH
 have HW1 := Lib.hid hW1
 clear hW1
 have HW2 := Lib.hid hW2
 clear hW2
 have HG := Lib.hid hG
 clear hG
 have S_1 := Lib.hid (show St w ((((w.alloc (.cells #[.int .i64 A,.int .i64 B,.bool P.s,(.slice Ap np cp),(.slice Bp mp dp),.bool Q.s,q0,q1,.bool R.s,r0,r1] 34)).alloc (.cells #[.int .i64 C,.int .i64 E,.bool V.s,(.slice Av nv cv),(.slice Bv mv dv),.bool U.s,u0,u1,.bool T.s,t0,t1] 34)).alloc (.cells #[.int .i64 0,.int .i64 0,.bool false,.slice none 0 0,.slice none 0 0,.bool false,.slice none 0 0,.slice none 0 0,.bool false,.slice none 0 0,.slice none 0 0] 34)).alloc (.cells #[.bool false,.slice none 0 0,.slice none 0 0] 32)) [(w.heap.size + 1 + 1 + 1,[.bool false,.slice none 0 0,.slice none 0 0]),(w.heap.size + 1 + 1,[.int .i64 0,.int .i64 0,.bool false,.slice none 0 0,.slice none 0 0,.bool false,.slice none 0 0,.slice none 0 0,.bool false,.slice none 0 0,.slice none 0 0]),(w.heap.size + 1,[.int .i64 C,.int .i64 E,.bool V.s,(.slice Av nv cv),(.slice Bv mv dv),.bool U.s,u0,u1,.bool T.s,t0,t1]),(w.heap.size,[.int .i64 A,.int .i64 B,.bool P.s,(.slice Ap np cp),(.slice Bp mp dp),.bool Q.s,q0,q1,.bool R.s,r0,r1])] [] from (((((St.start w).alloc_at (b := w.heap.size) [.int .i64 A,.int .i64 B,.bool P.s,(.slice Ap np cp),(.slice Bp mp dp),.bool Q.s,q0,q1,.bool R.s,r0,r1] 34 (by first | rfl | simp)).alloc_at (b := w.heap.size + 1) [.int .i64 C,.int .i64 E,.bool V.s,(.slice Av nv cv),(.slice Bv mv dv),.bool U.s,u0,u1,.bool T.s,t0,t1] 34 (by first | rfl | simp)).alloc_at (b := w.heap.size + 1 + 1) [.int .i64 0,.int .i64 0,.bool false,.slice none 0 0,.slice none 0 0,.bool false,.slice none 0 0,.slice none 0 0,.bool false,.slice none 0 0,.slice none 0 0] 34 (by first | rfl | simp)).alloc_at (b := w.heap.size + 1 + 1 + 1) [.bool false,.slice none 0 0,.slice none 0 0] 32 (by first | rfl | simp)))
 have hne_rb_ra : w.heap.size + 1 + 1 + 1 ≠ w.heap.size + 1 + 1 := by omega
 have hne_rb_l : w.heap.size + 1 + 1 + 1 ≠ w.heap.size + 1 := by omega
 have hne_rb_k : w.heap.size + 1 + 1 + 1 ≠ w.heap.size := by omega
 have hne_ra_rb : w.heap.size + 1 + 1 ≠ w.heap.size + 1 + 1 + 1 := by omega
 have hne_ra_l : w.heap.size + 1 + 1 ≠ w.heap.size + 1 := by omega
 have hne_ra_k : w.heap.size + 1 + 1 ≠ w.heap.size := by omega
 have hne_l_rb : w.heap.size + 1 ≠ w.heap.size + 1 + 1 + 1 := by omega
 have hne_l_ra : w.heap.size + 1 ≠ w.heap.size + 1 + 1 := by omega
 have hne_l_k : w.heap.size + 1 ≠ w.heap.size := by omega
 have hne_k_rb : w.heap.size ≠ w.heap.size + 1 + 1 + 1 := by omega
 have hne_k_ra : w.heap.size ≠ w.heap.size + 1 + 1 := by omega
 have hne_k_l : w.heap.size ≠ w.heap.size + 1 := by omega
 go_enter Tryz.func39, Tryz.ntmps39
 go_upto_region 1 with fail
 go_cut [7,8] (fun ptr ptr2 wx => ∃ blk blk2,ptr = .pointer (some ⟨blk,0,none⟩) ∧ ptr2 = .pointer (some ⟨blk2,0,none⟩) ∧ St w wx [(w.heap.size + 1 + 1 + 1,[.bool false,.slice none 0 0,.slice none 0 0]),(w.heap.size + 1 + 1,[.int .i64 0,.int .i64 0,.bool false,.slice none 0 0,.slice none 0 0,.bool false,.slice none 0 0,.slice none 0 0,.bool false,.slice none 0 0,.slice none 0 0]),(w.heap.size + 1,[.int .i64 C,.int .i64 E,.bool V.s,(.slice Av nv cv),(.slice Bv mv dv),.bool U.s,u0,u1,.bool T.s,t0,t1]),(w.heap.size,[.int .i64 A,.int .i64 B,.bool P.s,(.slice Ap np cp),(.slice Bp mp dp),.bool Q.s,q0,q1,.bool R.s,r0,r1]),(blk,[.bool P.s,(.slice Ap np cp),(.slice Bp mp dp)]),(blk2,[.bool V.s,(.slice Av nv cv),(.slice Bv mv dv)])] [])
 case first =>
   go_region
   all_goals go_wp2_with fail
   all_goals go_meet
   all_goals refine ⟨_, _, rfl, rfl, ?_⟩
   all_goals first | exact ((S_1.out.drew.allocE_at [.bool P.s, (.slice Ap np cp), (.slice Bp mp dp)] 32 (by first | rfl | simp)).allocE_at [.bool V.s, (.slice Av nv cv), (.slice Bv mv dv)] 32 (by first | rfl | simp)) | exact (S_1.out.drew.allocE2_at [.bool V.s, (.slice Av nv cv), (.slice Bv mv dv)] [.bool P.s, (.slice Ap np cp), (.slice Bp mp dp)] 32 32 (by first | rfl | simp) (by first | rfl | simp))
 obtain ⟨b_v, b_w, rfl, rfl, hst⟩ := hcut
 clear S_1
 have S_2 := Lib.hid hst
 clear hst
 have hne_rb_v := S_2.out.ne 0 4 rfl rfl (by decide)
 have hne_rb_w := S_2.out.ne 0 5 rfl rfl (by decide)
 have hne_ra_v := S_2.out.ne 1 4 rfl rfl (by decide)
 have hne_ra_w := S_2.out.ne 1 5 rfl rfl (by decide)
 have hne_l_v := S_2.out.ne 2 4 rfl rfl (by decide)
 have hne_l_w := S_2.out.ne 2 5 rfl rfl (by decide)
 have hne_k_v := S_2.out.ne 3 4 rfl rfl (by decide)
 have hne_k_w := S_2.out.ne 3 5 rfl rfl (by decide)
 have hne_v_rb := S_2.out.ne 4 0 rfl rfl (by decide)
 have hne_v_ra := S_2.out.ne 4 1 rfl rfl (by decide)
 have hne_v_l := S_2.out.ne 4 2 rfl rfl (by decide)
 have hne_v_k := S_2.out.ne 4 3 rfl rfl (by decide)
 have hne_v_w := S_2.out.ne 4 5 rfl rfl (by decide)
 have hne_w_rb := S_2.out.ne 5 0 rfl rfl (by decide)
 have hne_w_ra := S_2.out.ne 5 1 rfl rfl (by decide)
 have hne_w_l := S_2.out.ne 5 2 rfl rfl (by decide)
 have hne_w_k := S_2.out.ne 5 3 rfl rfl (by decide)
 have hne_w_v := S_2.out.ne 5 4 rfl rfl (by decide)
 obtain ⟨wa, hwa⟩ : ∃ u, wc = u := ⟨_, rfl⟩
 rw [hwa] at S_2 ⊢
 clear hwa
 have hk_v_0_2 := S_2.out.cell 4 0 rfl rfl
 have hk_v_1_2 := S_2.out.cell 4 1 rfl rfl
 have hk_v_2_2 := S_2.out.cell 4 2 rfl rfl
 have hk_w_0_2 := S_2.out.cell 5 0 rfl rfl
 have hk_w_1_2 := S_2.out.cell 5 1 rfl rfl
 have hk_w_2_2 := S_2.out.cell 5 2 rfl rfl
 go_wp2_with fail
 refine (plus_f P V (.slice Ap np cp) (.slice Bp mp dp) (.slice Av nv cv) (.slice Bv mv dv) _ GP.out GV.out (S_2.out.lkA HL.out).p (S_2.out.lkA HM.out).p).mono ?_
 rintro e w1 ⟨v0, u0, rfl, ho, hb⟩
 obtain ⟨A0, n0, c0, rfl⟩ := (ho.at_ 0 rfl).shape3
 obtain ⟨B0, m0, d0, rfl⟩ := (ho.at_ 1 rfl).shape3
 have S_3 := Lib.hid (S_2.out.rows ho hb)
 clear S_2
 clear ho hb
 rw [HS.out] at S_3 ⊢
 have S_4 := Lib.hid (S_3.out.allocE [.bool S.s, (.slice A0 n0 c0), (.slice B0 m0 d0)] 32)
 clear S_3
 have hne_rb_tot := S_4.out.ne 0 6 rfl rfl (by decide)
 have hne_tot_rb := S_4.out.ne 6 0 rfl rfl (by decide)
 have hne_ra_tot := S_4.out.ne 1 6 rfl rfl (by decide)
 have hne_tot_ra := S_4.out.ne 6 1 rfl rfl (by decide)
 have hne_l_tot := S_4.out.ne 2 6 rfl rfl (by decide)
 have hne_tot_l := S_4.out.ne 6 2 rfl rfl (by decide)
 have hne_k_tot := S_4.out.ne 3 6 rfl rfl (by decide)
 have hne_tot_k := S_4.out.ne 6 3 rfl rfl (by decide)
 have hne_v_tot := S_4.out.ne 4 6 rfl rfl (by decide)
 have hne_tot_v := S_4.out.ne 6 4 rfl rfl (by decide)
 have hne_w_tot := S_4.out.ne 5 6 rfl rfl (by decide)
 have hne_tot_w := S_4.out.ne 6 5 rfl rfl (by decide)
 clear hk_v_0_2 hk_v_1_2 hk_v_2_2 hk_w_0_2 hk_w_1_2 hk_w_2_2
 go_upto_region 3 with fail
 obtain ⟨wb, hwb⟩ : ∃ u, (w1.alloc (.cells #[.bool S.s, (.slice A0 n0 c0), (.slice B0 m0 d0)] 32)) = u := ⟨_, rfl⟩
 rw [hwb] at S_4 ⊢
 clear hwb
 have hk_k_0_4 := S_4.out.cell 3 0 rfl rfl
 have hk_k_1_4 := S_4.out.cell 3 1 rfl rfl
 have hk_k_2_4 := S_4.out.cell 3 2 rfl rfl
 have hk_k_3_4 := S_4.out.cell 3 3 rfl rfl
 have hk_k_4_4 := S_4.out.cell 3 4 rfl rfl
 have hk_k_5_4 := S_4.out.cell 3 5 rfl rfl
 have hk_k_6_4 := S_4.out.cell 3 6 rfl rfl
 have hk_k_7_4 := S_4.out.cell 3 7 rfl rfl
 have hk_k_8_4 := S_4.out.cell 3 8 rfl rfl
 have hk_k_9_4 := S_4.out.cell 3 9 rfl rfl
 have hk_k_10_4 := S_4.out.cell 3 10 rfl rfl
 have hk_l_0_4 := S_4.out.cell 2 0 rfl rfl
 have hk_l_1_4 := S_4.out.cell 2 1 rfl rfl
 have hk_l_2_4 := S_4.out.cell 2 2 rfl rfl
 have hk_l_3_4 := S_4.out.cell 2 3 rfl rfl
 have hk_l_4_4 := S_4.out.cell 2 4 rfl rfl
 have hk_l_5_4 := S_4.out.cell 2 5 rfl rfl
 have hk_l_6_4 := S_4.out.cell 2 6 rfl rfl
 have hk_l_7_4 := S_4.out.cell 2 7 rfl rfl
 have hk_l_8_4 := S_4.out.cell 2 8 rfl rfl
 have hk_l_9_4 := S_4.out.cell 2 9 rfl rfl
 have hk_l_10_4 := S_4.out.cell 2 10 rfl rfl
 have hk_v_0_4 := S_4.out.cell 4 0 rfl rfl
 have hk_v_1_4 := S_4.out.cell 4 1 rfl rfl
 have hk_v_2_4 := S_4.out.cell 4 2 rfl rfl
 have hk_w_0_4 := S_4.out.cell 5 0 rfl rfl
 have hk_w_1_4 := S_4.out.cell 5 1 rfl rfl
 have hk_w_2_4 := S_4.out.cell 5 2 rfl rfl
 have hk_tot_0_4 := S_4.out.cell 6 0 rfl rfl
 have hk_tot_1_4 := S_4.out.cell 6 1 rfl rfl
 have hk_tot_2_4 := S_4.out.cell 6 2 rfl rfl
 go_upto_region 3 with fail
 clear hk_k_0_4 hk_k_1_4 hk_k_2_4 hk_k_3_4 hk_k_4_4 hk_k_5_4 hk_k_6_4 hk_k_7_4 hk_k_8_4 hk_k_9_4 hk_k_10_4 hk_l_0_4 hk_l_1_4 hk_l_2_4 hk_l_3_4 hk_l_4_4 hk_l_5_4 hk_l_6_4 hk_l_7_4 hk_l_8_4 hk_l_9_4 hk_l_10_4 hk_v_0_4 hk_v_1_4 hk_v_2_4 hk_w_0_4 hk_w_1_4 hk_w_2_4 hk_tot_0_4 hk_tot_1_4 hk_tot_2_4
 go_cut [10] (fun ptr wx => ∃ blk Ax4 nx4 cx4 Bx4 mx4 dx4 Ay4 ny4 cy4 By4 my4 dy4,ptr = .pointer (some ⟨blk,0,none⟩) ∧ St w wx [(w.heap.size + 1 + 1 + 1,[.bool false,.slice none 0 0,.slice none 0 0]),(w.heap.size + 1 + 1,[.int .i64 0,.int .i64 0,.bool false,.slice none 0 0,.slice none 0 0,.bool false,.slice none 0 0,.slice none 0 0,.bool false,.slice none 0 0,.slice none 0 0]),(w.heap.size + 1,[.int .i64 C,.int .i64 E,.bool V.s,(.slice Av nv cv),(.slice Bv mv dv),.bool U.s,u0,u1,.bool T.s,t0,t1]),(w.heap.size,[.int .i64 A,.int .i64 B,.bool P.s,(.slice Ap np cp),(.slice Bp mp dp),.bool Q.s,q0,q1,.bool R.s,r0,r1]),(b_v,[.bool P.s,(.slice Ap np cp),(.slice Bp mp dp)]),(b_w,[.bool V.s,(.slice Av nv cv),(.slice Bv mv dv)]),(w1.heap.size,[.bool S.s,(.slice A0 n0 c0),(.slice B0 m0 d0)]),(blk,[.int .i64 A,.int .i64 B,.bool S.s,(.slice A0 n0 c0),(.slice B0 m0 d0),.bool X.s,(.slice Ax4 nx4 cx4),(.slice Bx4 mx4 dx4),.bool Y.s,(.slice Ay4 ny4 cy4),(.slice By4 my4 dy4)])] [[((.slice Ay4 ny4 cy4),ints Y.xs),((.slice By4 my4 dy4),ints Y.ys)],[((.slice Ax4 nx4 cx4),ints X.xs),((.slice Bx4 mx4 dx4),ints X.ys)],[((.slice A0 n0 c0),ints S.xs),((.slice B0 m0 d0),ints S.ys)]])
 case first =>
   have mkS_5 : ∀ (w' : World) (x0_ x1_ : List Value) (bs' : List (Nat × List Value)) (cs' : List Chunk),St w w' ((w.heap.size + 1 + 1 + 1,x0_) :: (w.heap.size + 1 + 1,x1_) :: (w.heap.size + 1,[.int .i64 C,.int .i64 E,.bool V.s,(.slice Av nv cv),(.slice Bv mv dv),.bool U.s,u0,u1,.bool T.s,t0,t1]) :: (w.heap.size,[.int .i64 A,.int .i64 B,.bool P.s,(.slice Ap np cp),(.slice Bp mp dp),.bool Q.s,q0,q1,.bool R.s,r0,r1]) :: (b_v,[.bool P.s,(.slice Ap np cp),(.slice Bp mp dp)]) :: (b_w,[.bool V.s,(.slice Av nv cv),(.slice Bv mv dv)]) :: (w1.heap.size,[.bool S.s,(.slice A0 n0 c0),(.slice B0 m0 d0)]) :: bs') cs' → w'.cell? ⟨w.heap.size + 1,0,none⟩ = some (.int .i64 C) ∧ w'.cell? ⟨w.heap.size + 1,1,none⟩ = some (.int .i64 E) ∧ w'.cell? ⟨w.heap.size + 1,2,none⟩ = some (.bool V.s) ∧ w'.cell? ⟨w.heap.size + 1,3,none⟩ = some ((.slice Av nv cv)) ∧ w'.cell? ⟨w.heap.size + 1,4,none⟩ = some ((.slice Bv mv dv)) ∧ w'.cell? ⟨w.heap.size + 1,5,none⟩ = some (.bool U.s) ∧ w'.cell? ⟨w.heap.size + 1,6,none⟩ = some (u0) ∧ w'.cell? ⟨w.heap.size + 1,7,none⟩ = some (u1) ∧ w'.cell? ⟨w.heap.size + 1,8,none⟩ = some (.bool T.s) ∧ w'.cell? ⟨w.heap.size + 1,9,none⟩ = some (t0) ∧ w'.cell? ⟨w.heap.size + 1,10,none⟩ = some (t1) ∧ w'.cell? ⟨w.heap.size,0,none⟩ = some (.int .i64 A) ∧ w'.cell? ⟨w.heap.size,1,none⟩ = some (.int .i64 B) ∧ w'.cell? ⟨w.heap.size,2,none⟩ = some (.bool P.s) ∧ w'.cell? ⟨w.heap.size,3,none⟩ = some ((.slice Ap np cp)) ∧ w'.cell? ⟨w.heap.size,4,none⟩ = some ((.slice Bp mp dp)) ∧ w'.cell? ⟨w.heap.size,5,none⟩ = some (.bool Q.s) ∧ w'.cell? ⟨w.heap.size,6,none⟩ = some (q0) ∧ w'.cell? ⟨w.heap.size,7,none⟩ = some (q1) ∧ w'.cell? ⟨w.heap.size,8,none⟩ = some (.bool R.s) ∧ w'.cell? ⟨w.heap.size,9,none⟩ = some (r0) ∧ w'.cell? ⟨w.heap.size,10,none⟩ = some (r1) ∧ w'.cell? ⟨b_v,0,none⟩ = some (.bool P.s) ∧ w'.cell? ⟨b_v,1,none⟩ = some ((.slice Ap np cp)) ∧ w'.cell? ⟨b_v,2,none⟩ = some ((.slice Bp mp dp)) ∧ w'.cell? ⟨b_w,0,none⟩ = some (.bool V.s) ∧ w'.cell? ⟨b_w,1,none⟩ = some ((.slice Av nv cv)) ∧ w'.cell? ⟨b_w,2,none⟩ = some ((.slice Bv mv dv)) ∧ w'.cell? ⟨w1.heap.size,0,none⟩ = some (.bool S.s) ∧ w'.cell? ⟨w1.heap.size,1,none⟩ = some ((.slice A0 n0 c0)) ∧ w'.cell? ⟨w1.heap.size,2,none⟩ = some ((.slice B0 m0 d0)) := fun w' x0_ x1_ bs' cs' h => ⟨h.cell 2 0 rfl rfl,h.cell 2 1 rfl rfl,h.cell 2 2 rfl rfl,h.cell 2 3 rfl rfl,h.cell 2 4 rfl rfl,h.cell 2 5 rfl rfl,h.cell 2 6 rfl rfl,h.cell 2 7 rfl rfl,h.cell 2 8 rfl rfl,h.cell 2 9 rfl rfl,h.cell 2 10 rfl rfl,h.cell 3 0 rfl rfl,h.cell 3 1 rfl rfl,h.cell 3 2 rfl rfl,h.cell 3 3 rfl rfl,h.cell 3 4 rfl rfl,h.cell 3 5 rfl rfl,h.cell 3 6 rfl rfl,h.cell 3 7 rfl rfl,h.cell 3 8 rfl rfl,h.cell 3 9 rfl rfl,h.cell 3 10 rfl rfl,h.cell 4 0 rfl rfl,h.cell 4 1 rfl rfl,h.cell 4 2 rfl rfl,h.cell 5 0 rfl rfl,h.cell 5 1 rfl rfl,h.cell 5 2 rfl rfl,h.cell 6 0 rfl rfl,h.cell 6 1 rfl rfl,h.cell 6 2 rfl rfl⟩
   refine wp_region_noPanic ?_
   refine wp_region_held_drew (S := (fun w' => w'.cell? ⟨w.heap.size + 1, 0, none⟩ = some (.int .i64 C) ∧ w'.cell? ⟨w.heap.size + 1, 1, none⟩ = some (.int .i64 E) ∧ w'.cell? ⟨w.heap.size + 1, 2, none⟩ = some (.bool V.s) ∧ w'.cell? ⟨w.heap.size + 1, 3, none⟩ = some ((.slice Av nv cv)) ∧ w'.cell? ⟨w.heap.size + 1, 4, none⟩ = some ((.slice Bv mv dv)) ∧ w'.cell? ⟨w.heap.size + 1, 5, none⟩ = some (.bool U.s) ∧ w'.cell? ⟨w.heap.size + 1, 6, none⟩ = some (u0) ∧ w'.cell? ⟨w.heap.size + 1, 7, none⟩ = some (u1) ∧ w'.cell? ⟨w.heap.size + 1, 8, none⟩ = some (.bool T.s) ∧ w'.cell? ⟨w.heap.size + 1, 9, none⟩ = some (t0) ∧ w'.cell? ⟨w.heap.size + 1, 10, none⟩ = some (t1) ∧ w'.cell? ⟨w.heap.size, 0, none⟩ = some (.int .i64 A) ∧ w'.cell? ⟨w.heap.size, 1, none⟩ = some (.int .i64 B) ∧ w'.cell? ⟨w.heap.size, 2, none⟩ = some (.bool P.s) ∧ w'.cell? ⟨w.heap.size, 3, none⟩ = some ((.slice Ap np cp)) ∧ w'.cell? ⟨w.heap.size, 4, none⟩ = some ((.slice Bp mp dp)) ∧ w'.cell? ⟨w.heap.size, 5, none⟩ = some (.bool Q.s) ∧ w'.cell? ⟨w.heap.size, 6, none⟩ = some (q0) ∧ w'.cell? ⟨w.heap.size, 7, none⟩ = some (q1) ∧ w'.cell? ⟨w.heap.size, 8, none⟩ = some (.bool R.s) ∧ w'.cell? ⟨w.heap.size, 9, none⟩ = some (r0) ∧ w'.cell? ⟨w.heap.size, 10, none⟩ = some (r1) ∧ w'.cell? ⟨b_v, 0, none⟩ = some (.bool P.s) ∧ w'.cell? ⟨b_v, 1, none⟩ = some ((.slice Ap np cp)) ∧ w'.cell? ⟨b_v, 2, none⟩ = some ((.slice Bp mp dp)) ∧ w'.cell? ⟨b_w, 0, none⟩ = some (.bool V.s) ∧ w'.cell? ⟨b_w, 1, none⟩ = some ((.slice Av nv cv)) ∧ w'.cell? ⟨b_w, 2, none⟩ = some ((.slice Bv mv dv)) ∧ w'.cell? ⟨w1.heap.size, 0, none⟩ = some (.bool S.s) ∧ w'.cell? ⟨w1.heap.size, 1, none⟩ = some ((.slice A0 n0 c0)) ∧ w'.cell? ⟨w1.heap.size, 2, none⟩ = some ((.slice B0 m0 d0)))) (by kernel_rfl) ?_ (fun hHeld => ?_)
   · exact mkS_5 _ _ _ _ _ S_4.out.drew
   refine tkH 0 ?_ ⟨some 20,.fieldAddr 34 (.tmp 2) 0,0,"l06_links.go:148",#[],none⟩ ?_ ?_
   rotate_left
   · intro w9 hSw; (try dsimp only at hSw); go_simp; try with_reducible rfl
   try simp only [pm, s0, sS]
   refine tkH 1 ?_ ⟨some 21,.load 3 (.tmp 20),3,"l06_links.go:148",#[⟨0,.data⟩],none⟩ ?_ ?_
   rotate_left
   · intro w9 hSw; (try dsimp only at hSw); go_simp; try with_reducible rfl
   try simp only [pm, s0, sS]
   refine tkH 2 ?_ ⟨some 22,.fieldAddr 34 (.tmp 2) 1,0,"l06_links.go:148",#[],none⟩ ?_ ?_
   rotate_left
   · intro w9 hSw; (try dsimp only at hSw); go_simp; try with_reducible rfl
   try simp only [pm, s0, sS]
   refine tkH 3 ?_ ⟨some 23,.load 3 (.tmp 22),3,"l06_links.go:148",#[⟨2,.data⟩],none⟩ ?_ ?_
   rotate_left
   · intro w9 hSw; (try dsimp only at hSw); go_simp; try with_reducible rfl
   try simp only [pm, s0, sS]
   refine tkH 4 ?_ ⟨some 24,.load 32 (.tmp 9),32,"l06_links.go:148",#[],none⟩ ?_ ?_
   rotate_left
   · intro w9 hSw; (try dsimp only at hSw); go_simp; try with_reducible rfl
   try simp only [pm, s0, sS]
   refine tkH 5 ?_ ⟨some 25,.load 32 (.tmp 7),32,"l06_links.go:148",#[],none⟩ ?_ ?_
   rotate_left
   · intro w9 hSw; (try dsimp only at hSw); go_simp; try with_reducible rfl
   try simp only [pm, s0, sS]
   refine tkH 6 ?_ ⟨some 26,.fieldAddr 34 (.tmp 2) 3,0,"l06_links.go:148",#[],none⟩ ?_ ?_
   rotate_left
   · intro w9 hSw; (try dsimp only at hSw); go_simp; try with_reducible rfl
   try simp only [pm, s0, sS]
   refine tkH 7 ?_ ⟨some 27,.load 32 (.tmp 26),32,"l06_links.go:148",#[⟨6,.data⟩],none⟩ ?_ ?_
   rotate_left
   · intro w9 hSw; (try dsimp only at hSw); go_simp; try with_reducible rfl
   try simp only [pm, s0, sS]
   refine tkH 9 ?_ ⟨some 29,.load 32 (.tmp 8),32,"l06_links.go:148",#[],none⟩ ?_ ?_
   rotate_left
   · intro w9 hSw; (try dsimp only at hSw); go_simp; try with_reducible rfl
   try simp only [pm, s0, sS]
   refine tkH 10 ?_ ⟨some 30,.fieldAddr 34 (.tmp 3) 3,0,"l06_links.go:148",#[],none⟩ ?_ ?_
   rotate_left
   · intro w9 hSw; (try dsimp only at hSw); go_simp; try with_reducible rfl
   try simp only [pm, s0, sS]
   refine tkH 11 ?_ ⟨some 31,.load 32 (.tmp 30),32,"l06_links.go:148",#[⟨10,.data⟩],none⟩ ?_ ?_
   rotate_left
   · intro w9 hSw; (try dsimp only at hSw); go_simp; try with_reducible rfl
   try simp only [pm, s0, sS]
   refine tkH 14 ?_ ⟨some 34,.load 32 (.tmp 9),32,"l06_links.go:148",#[],none⟩ ?_ ?_
   rotate_left
   · intro w9 hSw; (try dsimp only at hSw); go_simp; try with_reducible rfl
   try simp only [pm, s0, sS]
   refine tkH 16 ?_ ⟨some 36,.load 32 (.tmp 7),32,"l06_links.go:148",#[],none⟩ ?_ ?_
   rotate_left
   · intro w9 hSw; (try dsimp only at hSw); go_simp; try with_reducible rfl
   try simp only [pm, s0, sS]
   refine tkH 17 ?_ ⟨some 37,.fieldAddr 34 (.tmp 2) 4,0,"l06_links.go:148",#[],none⟩ ?_ ?_
   rotate_left
   · intro w9 hSw; (try dsimp only at hSw); go_simp; try with_reducible rfl
   try simp only [pm, s0, sS]
   refine tkH 18 ?_ ⟨some 38,.load 32 (.tmp 37),32,"l06_links.go:148",#[⟨17,.data⟩],none⟩ ?_ ?_
   rotate_left
   · intro w9 hSw; (try dsimp only at hSw); go_simp; try with_reducible rfl
   try simp only [pm, s0, sS]
   refine tkH 20 ?_ ⟨some 40,.load 32 (.tmp 8),32,"l06_links.go:148",#[],none⟩ ?_ ?_
   rotate_left
   · intro w9 hSw; (try dsimp only at hSw); go_simp; try with_reducible rfl
   try simp only [pm, s0, sS]
   refine tkH 21 ?_ ⟨some 41,.fieldAddr 34 (.tmp 3) 4,0,"l06_links.go:148",#[],none⟩ ?_ ?_
   rotate_left
   · intro w9 hSw; (try dsimp only at hSw); go_simp; try with_reducible rfl
   try simp only [pm, s0, sS]
   refine tkH 22 ?_ ⟨some 42,.load 32 (.tmp 41),32,"l06_links.go:148",#[⟨21,.data⟩],none⟩ ?_ ?_
   rotate_left
   · intro w9 hSw; (try dsimp only at hSw); go_simp; try with_reducible rfl
   try simp only [pm, s0, sS]
   refine tkH 25 ?_ ⟨some 45,.load 32 (.tmp 9),32,"l06_links.go:148",#[],none⟩ ?_ ?_
   rotate_left
   · intro w9 hSw; (try dsimp only at hSw); go_simp; try with_reducible rfl
   try simp only [pm, s0, sS]
   refine wpAnyH_ready (rs := [8, 28]) (by kernel_rfl) (by simp) ?_
   refine AllReadyH.cons (o := ⟨some 28,.call { callee := .value (.func 56),args := #[.tmp 25,.tmp 27],argTypes := #[32,32] },32,"l06_links.go:152",#[⟨5,.data⟩,⟨7,.data⟩],none⟩) rfl (fun K hK => ?_) ?_
   · go_simp
     go_at_call_of 56 (Value.agg #[Value.bool P.s,(Value.slice Ap np cp),(Value.slice Bp mp dp)])
     go_at_call_of 56 (Value.agg #[Value.bool Q.s,q0,q1])
     refine (times_f P Q (.slice Ap np cp) (.slice Bp mp dp) q0 q1 _ GP.out GQ.out (S_4.out.drew.lkA HL.out).p (S_4.out.drew.lkA HL.out).q).mono ?_
     rintro e wx1 ⟨vx1, ux1, rfl, ho, hb⟩
     obtain ⟨Ax1, nx1, cx1, rfl⟩ := (ho.at_ 0 rfl).shape3
     obtain ⟨Bx1, mx1, dx1, rfl⟩ := (ho.at_ 1 rfl).shape3
     rw [HM1.out] at ho ⊢
     have S_5 := Lib.hid (S_4.out.drew.rows ho hb)
     clear S_4 ho hb
     refine hK.out _ _ (mkS_5 _ _ _ _ _ S_5.out) (fun hHeld8 => ?_)
     clear hK K
     try simp only [pm, s0, sS]
     refine wpAnyH_ready (rs := [12, 28]) (by kernel_rfl) (by simp) ?_
     refine AllReadyH.cons (o := ⟨some 32,.call { callee := .value (.func 56),args := #[.tmp 29,.tmp 31],argTypes := #[32,32] },32,"l06_links.go:152",#[⟨9,.data⟩,⟨11,.data⟩,⟨8,.chain⟩],none⟩) rfl (fun K hK => ?_) ?_
     · go_simp
       go_at_call_of 56 (Value.agg #[Value.bool V.s,(Value.slice Av nv cv),(Value.slice Bv mv dv)])
       go_at_call_of 56 (Value.agg #[Value.bool U.s,u0,u1])
       refine (times_f V U (.slice Av nv cv) (.slice Bv mv dv) u0 u1 _ GV.out GU.out (S_5.out.lkA HM.out).p (S_5.out.lkA HM.out).q).mono ?_
       rintro e wx2 ⟨vx2, ux2, rfl, ho, hb⟩
       obtain ⟨Ax2, nx2, cx2, rfl⟩ := (ho.at_ 0 rfl).shape3
       obtain ⟨Bx2, mx2, dx2, rfl⟩ := (ho.at_ 1 rfl).shape3
       rw [HM2.out] at ho ⊢
       have S_6 := Lib.hid (S_5.out.rows ho hb)
       clear S_5 ho hb
       refine hK.out _ _ (mkS_5 _ _ _ _ _ S_6.out) (fun hHeld12 => ?_)
       clear hK K
       try simp only [pm, s0, sS]
       refine wpAnyH_ready (rs := [13, 28]) (by kernel_rfl) (by simp) ?_
       refine AllReadyH.cons (o := ⟨some 33,.call { callee := .value (.func 55),args := #[.tmp 28,.tmp 32],argTypes := #[32,32] },32,"l06_links.go:152",#[⟨8,.data⟩,⟨12,.data⟩,⟨12,.chain⟩],none⟩) rfl (fun K hK => ?_) ?_
       · go_simp
         go_at_call_of 55 (Value.agg #[Value.bool M1.s,(Value.slice Ax1 nx1 cx1),(Value.slice Bx1 mx1 dx1)])
         refine (plus_f M1 M2 (.slice Ax1 nx1 cx1) (.slice Bx1 mx1 dx1) (.slice Ax2 nx2 cx2) (.slice Bx2 mx2 dx2) _ (HM1.out ▸ good_mul _ _) (HM2.out ▸ good_mul _ _) (S_6.out.fr 1 0 rfl rfl rfl) (S_6.out.fr 0 0 rfl rfl rfl)).mono ?_
         rintro e wx3 ⟨vx3, ux3, rfl, ho, hb⟩
         obtain ⟨Ax3, nx3, cx3, rfl⟩ := (ho.at_ 0 rfl).shape3
         obtain ⟨Bx3, mx3, dx3, rfl⟩ := (ho.at_ 1 rfl).shape3
         rw [HN1.out] at ho ⊢
         have S_7 := Lib.hid (S_6.out.rows ho hb)
         clear S_6 ho hb
         refine hK.out _ _ (mkS_5 _ _ _ _ _ S_7.out) (fun hHeld13 => ?_)
         clear hK K
         try simp only [pm, s0, sS]
         refine wpAnyH_ready (rs := [15, 28]) (by kernel_rfl) (by simp) ?_
         refine AllReadyH.cons (o := ⟨some 35,.call { callee := .value (.func 80),args := #[.tmp 33,.tmp 34],argTypes := #[32,32] },32,"l06_links.go:152",#[⟨13,.data⟩,⟨14,.data⟩,⟨13,.chain⟩],none⟩) rfl (fun K hK => ?_) ?_
         · go_simp
           go_at_call_of 80 (Value.agg #[Value.bool N1.s,(Value.slice Ax3 nx3 cx3),(Value.slice Bx3 mx3 dx3)])
           refine (dividedBy_f N1 S (.slice Ax3 nx3 cx3) (.slice Bx3 mx3 dx3) (.slice A0 n0 c0) (.slice B0 m0 d0) _ (HN1.out ▸ good_add _ _) (HS.out ▸ good_add P V) (S_7.out.fr 0 0 rfl rfl rfl) (S_7.out.fr 3 0 rfl rfl rfl)).mono ?_
           rintro e wx4 ⟨vx4, ux4, rfl, ho, hb⟩
           obtain ⟨Ax4, nx4, cx4, rfl⟩ := (ho.at_ 0 rfl).shape3
           obtain ⟨Bx4, mx4, dx4, rfl⟩ := (ho.at_ 1 rfl).shape3
           rw [HX.out] at ho ⊢
           have S_8 := Lib.hid (S_7.out.rows ho hb)
           clear S_7 ho hb
           refine hK.out _ _ (mkS_5 _ _ _ _ _ S_8.out) (fun hHeld15 => ?_)
           clear hK K
           try simp only [pm, s0, sS]
           refine wpAnyH_ready (rs := [19, 28]) (by kernel_rfl) (by simp) ?_
           refine AllReadyH.cons (o := ⟨some 39,.call { callee := .value (.func 56),args := #[.tmp 36,.tmp 38],argTypes := #[32,32] },32,"l06_links.go:153",#[⟨16,.data⟩,⟨18,.data⟩,⟨15,.chain⟩],none⟩) rfl (fun K hK => ?_) ?_
           · go_simp
             go_at_call_of 56 (Value.agg #[Value.bool P.s,(Value.slice Ap np cp),(Value.slice Bp mp dp)])
             go_at_call_of 56 (Value.agg #[Value.bool R.s,r0,r1])
             refine (times_f P R (.slice Ap np cp) (.slice Bp mp dp) r0 r1 _ GP.out GR.out (S_8.out.lkA HL.out).p (S_8.out.lkA HL.out).r).mono ?_
             rintro e wy1 ⟨vy1, uy1, rfl, ho, hb⟩
             obtain ⟨Ay1, ny1, cy1, rfl⟩ := (ho.at_ 0 rfl).shape3
             obtain ⟨By1, my1, dy1, rfl⟩ := (ho.at_ 1 rfl).shape3
             rw [HM3.out] at ho ⊢
             have S_9 := Lib.hid (S_8.out.rows ho hb)
             clear S_8 ho hb
             refine hK.out _ _ (mkS_5 _ _ _ _ _ S_9.out) (fun hHeld19 => ?_)
             clear hK K
             try simp only [pm, s0, sS]
             refine wpAnyH_ready (rs := [23, 28]) (by kernel_rfl) (by simp) ?_
             refine AllReadyH.cons (o := ⟨some 43,.call { callee := .value (.func 56),args := #[.tmp 40,.tmp 42],argTypes := #[32,32] },32,"l06_links.go:153",#[⟨20,.data⟩,⟨22,.data⟩,⟨19,.chain⟩],none⟩) rfl (fun K hK => ?_) ?_
             · go_simp
               go_at_call_of 56 (Value.agg #[Value.bool V.s,(Value.slice Av nv cv),(Value.slice Bv mv dv)])
               go_at_call_of 56 (Value.agg #[Value.bool T.s,t0,t1])
               refine (times_f V T (.slice Av nv cv) (.slice Bv mv dv) t0 t1 _ GV.out GT.out (S_9.out.lkA HM.out).p (S_9.out.lkA HM.out).r).mono ?_
               rintro e wy2 ⟨vy2, uy2, rfl, ho, hb⟩
               obtain ⟨Ay2, ny2, cy2, rfl⟩ := (ho.at_ 0 rfl).shape3
               obtain ⟨By2, my2, dy2, rfl⟩ := (ho.at_ 1 rfl).shape3
               rw [HM4.out] at ho ⊢
               have S_10 := Lib.hid (S_9.out.rows ho hb)
               clear S_9 ho hb
               refine hK.out _ _ (mkS_5 _ _ _ _ _ S_10.out) (fun hHeld23 => ?_)
               clear hK K
               try simp only [pm, s0, sS]
               refine wpAnyH_ready (rs := [24, 28]) (by kernel_rfl) (by simp) ?_
               refine AllReadyH.cons (o := ⟨some 44,.call { callee := .value (.func 55),args := #[.tmp 39,.tmp 43],argTypes := #[32,32] },32,"l06_links.go:153",#[⟨19,.data⟩,⟨23,.data⟩,⟨23,.chain⟩],none⟩) rfl (fun K hK => ?_) ?_
               · go_simp
                 go_at_call_of 55 (Value.agg #[Value.bool M3.s,(Value.slice Ay1 ny1 cy1),(Value.slice By1 my1 dy1)])
                 refine (plus_f M3 M4 (.slice Ay1 ny1 cy1) (.slice By1 my1 dy1) (.slice Ay2 ny2 cy2) (.slice By2 my2 dy2) _ (HM3.out ▸ good_mul _ _) (HM4.out ▸ good_mul _ _) (S_10.out.fr 1 0 rfl rfl rfl) (S_10.out.fr 0 0 rfl rfl rfl)).mono ?_
                 rintro e wy3 ⟨vy3, uy3, rfl, ho, hb⟩
                 obtain ⟨Ay3, ny3, cy3, rfl⟩ := (ho.at_ 0 rfl).shape3
                 obtain ⟨By3, my3, dy3, rfl⟩ := (ho.at_ 1 rfl).shape3
                 rw [HN2.out] at ho ⊢
                 have S_11 := Lib.hid (S_10.out.rows ho hb)
                 clear S_10 ho hb
                 refine hK.out _ _ (mkS_5 _ _ _ _ _ S_11.out) (fun hHeld24 => ?_)
                 clear hK K
                 try simp only [pm, s0, sS]
                 refine wpAnyH_ready (rs := [26, 28]) (by kernel_rfl) (by simp) ?_
                 refine AllReadyH.cons (o := ⟨some 46,.call { callee := .value (.func 80),args := #[.tmp 44,.tmp 45],argTypes := #[32,32] },32,"l06_links.go:153",#[⟨24,.data⟩,⟨25,.data⟩,⟨24,.chain⟩],none⟩) rfl (fun K hK => ?_) ?_
                 · go_simp
                   go_at_call_of 80 (Value.agg #[Value.bool N2.s,(Value.slice Ay3 ny3 cy3),(Value.slice By3 my3 dy3)])
                   refine (dividedBy_f N2 S (.slice Ay3 ny3 cy3) (.slice By3 my3 dy3) (.slice A0 n0 c0) (.slice B0 m0 d0) _ (HN2.out ▸ good_add _ _) (HS.out ▸ good_add P V) (S_11.out.fr 0 0 rfl rfl rfl) (S_11.out.fr 7 0 rfl rfl rfl)).mono ?_
                   rintro e wy4 ⟨vy4, uy4, rfl, ho, hb⟩
                   obtain ⟨Ay4, ny4, cy4, rfl⟩ := (ho.at_ 0 rfl).shape3
                   obtain ⟨By4, my4, dy4, rfl⟩ := (ho.at_ 1 rfl).shape3
                   rw [HY.out] at ho ⊢
                   have S_12 := Lib.hid (S_11.out.rows ho hb)
                   clear S_11 ho hb
                   refine hK.out _ _ (mkS_5 _ _ _ _ _ S_12.out) (fun hHeld26 => ?_)
                   clear hK K
                   try simp only [pm, s0, sS]
                   refine tkH 27 ?_ ⟨some 47,.build 34 #[(0,.tmp 21),(1,.tmp 23),(2,.tmp 24),(3,.tmp 35),(4,.tmp 46)],34,"l06_links.go:148",#[⟨1,.data⟩,⟨3,.data⟩,⟨4,.data⟩,⟨15,.data⟩,⟨26,.data⟩],none⟩ ?_ ?_
                   rotate_left
                   · intro w9 hSw; (try dsimp only at hSw); go_simp; try with_reducible rfl
                   try simp only [pm, s0, sS]
                   refine wpAnyH_ready (rs := [28]) (by kernel_rfl) (by simp) ?_
                   refine AllReadyH.cons (o := ⟨some 10,.alloc 34,0,"l06_links.go:148",#[],none⟩) rfl (fun K hK => ?_) AllReadyH.nil
                   go_simp
                   have S_13 := Lib.hid (S_12.out.allocE [.int .i64 0, .int .i64 0, .bool false, .slice none 0 0, .slice none 0 0, .bool false, .slice none 0 0, .slice none 0 0, .bool false, .slice none 0 0, .slice none 0 0] 34)
                   clear S_12
                   refine hK.out _ _ (mkS_5 _ _ _ _ _ S_13.out) (fun hHeld28 => ?_)
                   clear hK K
                   try simp only [pm, s0, sS]
                   refine wpAnyH_ready (rs := [29]) (by kernel_rfl) (by simp) ?_
                   refine AllReadyH.cons (o := ⟨none,.store 34 (.tmp 10) (.tmp 47),0,"l06_links.go:148",#[⟨28,.data⟩,⟨27,.data⟩,⟨26,.chain⟩,⟨0,.phase⟩,⟨1,.phase⟩,⟨2,.phase⟩,⟨3,.phase⟩,⟨4,.phase⟩,⟨5,.phase⟩,⟨6,.phase⟩,⟨7,.phase⟩,⟨8,.phase⟩,⟨9,.phase⟩,⟨10,.phase⟩,⟨11,.phase⟩,⟨12,.phase⟩,⟨13,.phase⟩,⟨14,.phase⟩,⟨15,.phase⟩,⟨16,.phase⟩,⟨17,.phase⟩,⟨18,.phase⟩,⟨19,.phase⟩,⟨20,.phase⟩,⟨21,.phase⟩,⟨22,.phase⟩,⟨23,.phase⟩,⟨24,.phase⟩,⟨25,.phase⟩,⟨26,.phase⟩,⟨27,.phase⟩,⟨28,.phase⟩],none⟩) rfl (fun K hK => ?_) AllReadyH.nil
                   rw [if_pos (by rfl)]
                   refine wp_store_mid _ _ _ rfl _ _ (List.toArray [.int .i64 A, .int .i64 B, .bool S.s, (.slice A0 n0 c0), (.slice B0 m0 d0), .bool X.s, (.slice Ax4 nx4 cx4), (.slice Bx4 mx4 dx4), .bool Y.s, (.slice Ay4 ny4 cy4), (.slice By4 my4 dy4)]) rfl rfl (S_13.out.there_ 7 rfl rfl) (size_link) (all_oneCell_toArray (cs := [.int .i64 A, .int .i64 B, .bool S.s, (.slice A0 n0 c0), (.slice B0 m0 d0), .bool X.s, (.slice Ax4 nx4 cx4), (.slice Bx4 mx4 dx4), .bool Y.s, (.slice Ay4 ny4 cy4), (.slice By4 my4 dy4)]) (List.all_eq_true.mp rfl)) ?_
                   simp only [Act.put]
                   have S_14 := Lib.hid (S_13.out.setKit 7 [.int .i64 A, .int .i64 B, .bool S.s, (.slice A0 n0 c0), (.slice B0 m0 d0), .bool X.s, (.slice Ax4 nx4 cx4), (.slice Bx4 mx4 dx4), .bool Y.s, (.slice Ay4 ny4 cy4), (.slice By4 my4 dy4)] rfl rfl)
                   clear S_13
                   refine hK.out _ _ (mkS_5 _ _ _ _ _ S_14.out) (fun hHeld29 => ?_)
                   clear hK K
                   try simp only [pm, s0, sS]
                   refine wpAnyH_done (by kernel_rfl) ?_ _
                   refine NoPanic.normal ?_
                   go_wp2_with fail
                   go_meet
                   refine ⟨_, Ax4, nx4, cx4, Bx4, mx4, dx4, Ay4, ny4, cy4, By4, my4, dy4, rfl, ?_⟩
                   exact ((((((S_14.out.drop 7).drop 6).drop 5).drop 3).drop 2).drop 1)
                 refine AllReadyH.cons (o := ⟨some 10,.alloc 34,0,"l06_links.go:148",#[],none⟩) rfl (fun K hK => ?_) ?_
                 · go_simp
                   have S_12 := Lib.hid (S_11.out.allocE [.int .i64 0, .int .i64 0, .bool false, .slice none 0 0, .slice none 0 0, .bool false, .slice none 0 0, .slice none 0 0, .bool false, .slice none 0 0, .slice none 0 0] 34)
                   clear S_11
                   refine hK.out _ _ (mkS_5 _ _ _ _ _ S_12.out) (fun hHeld28 => ?_)
                   clear hK K
                   try simp only [pm, s0, sS]
                   refine wpAnyH_ready (rs := [26]) (by kernel_rfl) (by simp) ?_
                   refine AllReadyH.cons (o := ⟨some 46,.call { callee := .value (.func 80),args := #[.tmp 44,.tmp 45],argTypes := #[32,32] },32,"l06_links.go:153",#[⟨24,.data⟩,⟨25,.data⟩,⟨24,.chain⟩],none⟩) rfl (fun K hK => ?_) AllReadyH.nil
                   go_simp
                   go_at_call_of 80 (Value.agg #[Value.bool N2.s,(Value.slice Ay3 ny3 cy3),(Value.slice By3 my3 dy3)])
                   refine (dividedBy_f N2 S (.slice Ay3 ny3 cy3) (.slice By3 my3 dy3) (.slice A0 n0 c0) (.slice B0 m0 d0) _ (HN2.out ▸ good_add _ _) (HS.out ▸ good_add P V) (S_12.out.fr 0 0 rfl rfl rfl) (S_12.out.fr 7 0 rfl rfl rfl)).mono ?_
                   rintro e wy4 ⟨vy4, uy4, rfl, ho, hb⟩
                   obtain ⟨Ay4, ny4, cy4, rfl⟩ := (ho.at_ 0 rfl).shape3
                   obtain ⟨By4, my4, dy4, rfl⟩ := (ho.at_ 1 rfl).shape3
                   rw [HY.out] at ho ⊢
                   have S_13 := Lib.hid (S_12.out.rows ho hb)
                   clear S_12 ho hb
                   refine hK.out _ _ (mkS_5 _ _ _ _ _ S_13.out) (fun hHeld26 => ?_)
                   clear hK K
                   try simp only [pm, s0, sS]
                   refine tkH 27 ?_ ⟨some 47,.build 34 #[(0,.tmp 21),(1,.tmp 23),(2,.tmp 24),(3,.tmp 35),(4,.tmp 46)],34,"l06_links.go:148",#[⟨1,.data⟩,⟨3,.data⟩,⟨4,.data⟩,⟨15,.data⟩,⟨26,.data⟩],none⟩ ?_ ?_
                   rotate_left
                   · intro w9 hSw; (try dsimp only at hSw); go_simp; try with_reducible rfl
                   try simp only [pm, s0, sS]
                   refine wpAnyH_ready (rs := [29]) (by kernel_rfl) (by simp) ?_
                   refine AllReadyH.cons (o := ⟨none,.store 34 (.tmp 10) (.tmp 47),0,"l06_links.go:148",#[⟨28,.data⟩,⟨27,.data⟩,⟨26,.chain⟩,⟨0,.phase⟩,⟨1,.phase⟩,⟨2,.phase⟩,⟨3,.phase⟩,⟨4,.phase⟩,⟨5,.phase⟩,⟨6,.phase⟩,⟨7,.phase⟩,⟨8,.phase⟩,⟨9,.phase⟩,⟨10,.phase⟩,⟨11,.phase⟩,⟨12,.phase⟩,⟨13,.phase⟩,⟨14,.phase⟩,⟨15,.phase⟩,⟨16,.phase⟩,⟨17,.phase⟩,⟨18,.phase⟩,⟨19,.phase⟩,⟨20,.phase⟩,⟨21,.phase⟩,⟨22,.phase⟩,⟨23,.phase⟩,⟨24,.phase⟩,⟨25,.phase⟩,⟨26,.phase⟩,⟨27,.phase⟩,⟨28,.phase⟩],none⟩) rfl (fun K hK => ?_) AllReadyH.nil
                   rw [if_pos (by rfl)]
                   refine wp_store_mid _ _ _ rfl _ _ (List.toArray [.int .i64 A, .int .i64 B, .bool S.s, (.slice A0 n0 c0), (.slice B0 m0 d0), .bool X.s, (.slice Ax4 nx4 cx4), (.slice Bx4 mx4 dx4), .bool Y.s, (.slice Ay4 ny4 cy4), (.slice By4 my4 dy4)]) rfl rfl (S_13.out.there_ 7 rfl rfl) (size_link) (all_oneCell_toArray (cs := [.int .i64 A, .int .i64 B, .bool S.s, (.slice A0 n0 c0), (.slice B0 m0 d0), .bool X.s, (.slice Ax4 nx4 cx4), (.slice Bx4 mx4 dx4), .bool Y.s, (.slice Ay4 ny4 cy4), (.slice By4 my4 dy4)]) (List.all_eq_true.mp rfl)) ?_
                   simp only [Act.put]
                   have S_14 := Lib.hid (S_13.out.setKit 7 [.int .i64 A, .int .i64 B, .bool S.s, (.slice A0 n0 c0), (.slice B0 m0 d0), .bool X.s, (.slice Ax4 nx4 cx4), (.slice Bx4 mx4 dx4), .bool Y.s, (.slice Ay4 ny4 cy4), (.slice By4 my4 dy4)] rfl rfl)
                   clear S_13
                   refine hK.out _ _ (mkS_5 _ _ _ _ _ S_14.out) (fun hHeld29 => ?_)
                   clear hK K
                   try simp only [pm, s0, sS]
                   refine wpAnyH_done (by kernel_rfl) ?_ _
                   refine NoPanic.normal ?_
                   go_wp2_with fail
                   go_meet
                   refine ⟨_, Ax4, nx4, cx4, Bx4, mx4, dx4, Ay4, ny4, cy4, By4, my4, dy4, rfl, ?_⟩
                   exact ((((((S_14.out.drop 7).drop 6).drop 5).drop 3).drop 2).drop 1)
                 exact AllReadyH.nil
               refine AllReadyH.cons (o := ⟨some 10,.alloc 34,0,"l06_links.go:148",#[],none⟩) rfl (fun K hK => ?_) ?_
               · go_simp
                 have S_11 := Lib.hid (S_10.out.allocE [.int .i64 0, .int .i64 0, .bool false, .slice none 0 0, .slice none 0 0, .bool false, .slice none 0 0, .slice none 0 0, .bool false, .slice none 0 0, .slice none 0 0] 34)
                 clear S_10
                 refine hK.out _ _ (mkS_5 _ _ _ _ _ S_11.out) (fun hHeld28 => ?_)
                 clear hK K
                 try simp only [pm, s0, sS]
                 refine wpAnyH_ready (rs := [24]) (by kernel_rfl) (by simp) ?_
                 refine AllReadyH.cons (o := ⟨some 44,.call { callee := .value (.func 55),args := #[.tmp 39,.tmp 43],argTypes := #[32,32] },32,"l06_links.go:153",#[⟨19,.data⟩,⟨23,.data⟩,⟨23,.chain⟩],none⟩) rfl (fun K hK => ?_) AllReadyH.nil
                 go_simp
                 go_at_call_of 55 (Value.agg #[Value.bool M3.s,(Value.slice Ay1 ny1 cy1),(Value.slice By1 my1 dy1)])
                 refine (plus_f M3 M4 (.slice Ay1 ny1 cy1) (.slice By1 my1 dy1) (.slice Ay2 ny2 cy2) (.slice By2 my2 dy2) _ (HM3.out ▸ good_mul _ _) (HM4.out ▸ good_mul _ _) (S_11.out.fr 1 0 rfl rfl rfl) (S_11.out.fr 0 0 rfl rfl rfl)).mono ?_
                 rintro e wy3 ⟨vy3, uy3, rfl, ho, hb⟩
                 obtain ⟨Ay3, ny3, cy3, rfl⟩ := (ho.at_ 0 rfl).shape3
                 obtain ⟨By3, my3, dy3, rfl⟩ := (ho.at_ 1 rfl).shape3
                 rw [HN2.out] at ho ⊢
                 have S_12 := Lib.hid (S_11.out.rows ho hb)
                 clear S_11 ho hb
                 refine hK.out _ _ (mkS_5 _ _ _ _ _ S_12.out) (fun hHeld24 => ?_)
                 clear hK K
                 try simp only [pm, s0, sS]
                 refine wpAnyH_ready (rs := [26]) (by kernel_rfl) (by simp) ?_
                 refine AllReadyH.cons (o := ⟨some 46,.call { callee := .value (.func 80),args := #[.tmp 44,.tmp 45],argTypes := #[32,32] },32,"l06_links.go:153",#[⟨24,.data⟩,⟨25,.data⟩,⟨24,.chain⟩],none⟩) rfl (fun K hK => ?_) AllReadyH.nil
                 go_simp
                 go_at_call_of 80 (Value.agg #[Value.bool N2.s,(Value.slice Ay3 ny3 cy3),(Value.slice By3 my3 dy3)])
                 refine (dividedBy_f N2 S (.slice Ay3 ny3 cy3) (.slice By3 my3 dy3) (.slice A0 n0 c0) (.slice B0 m0 d0) _ (HN2.out ▸ good_add _ _) (HS.out ▸ good_add P V) (S_12.out.fr 0 0 rfl rfl rfl) (S_12.out.fr 7 0 rfl rfl rfl)).mono ?_
                 rintro e wy4 ⟨vy4, uy4, rfl, ho, hb⟩
                 obtain ⟨Ay4, ny4, cy4, rfl⟩ := (ho.at_ 0 rfl).shape3
                 obtain ⟨By4, my4, dy4, rfl⟩ := (ho.at_ 1 rfl).shape3
                 rw [HY.out] at ho ⊢
                 have S_13 := Lib.hid (S_12.out.rows ho hb)
                 clear S_12 ho hb
                 refine hK.out _ _ (mkS_5 _ _ _ _ _ S_13.out) (fun hHeld26 => ?_)
                 clear hK K
                 try simp only [pm, s0, sS]
                 refine tkH 27 ?_ ⟨some 47,.build 34 #[(0,.tmp 21),(1,.tmp 23),(2,.tmp 24),(3,.tmp 35),(4,.tmp 46)],34,"l06_links.go:148",#[⟨1,.data⟩,⟨3,.data⟩,⟨4,.data⟩,⟨15,.data⟩,⟨26,.data⟩],none⟩ ?_ ?_
                 rotate_left
                 · intro w9 hSw; (try dsimp only at hSw); go_simp; try with_reducible rfl
                 try simp only [pm, s0, sS]
                 refine wpAnyH_ready (rs := [29]) (by kernel_rfl) (by simp) ?_
                 refine AllReadyH.cons (o := ⟨none,.store 34 (.tmp 10) (.tmp 47),0,"l06_links.go:148",#[⟨28,.data⟩,⟨27,.data⟩,⟨26,.chain⟩,⟨0,.phase⟩,⟨1,.phase⟩,⟨2,.phase⟩,⟨3,.phase⟩,⟨4,.phase⟩,⟨5,.phase⟩,⟨6,.phase⟩,⟨7,.phase⟩,⟨8,.phase⟩,⟨9,.phase⟩,⟨10,.phase⟩,⟨11,.phase⟩,⟨12,.phase⟩,⟨13,.phase⟩,⟨14,.phase⟩,⟨15,.phase⟩,⟨16,.phase⟩,⟨17,.phase⟩,⟨18,.phase⟩,⟨19,.phase⟩,⟨20,.phase⟩,⟨21,.phase⟩,⟨22,.phase⟩,⟨23,.phase⟩,⟨24,.phase⟩,⟨25,.phase⟩,⟨26,.phase⟩,⟨27,.phase⟩,⟨28,.phase⟩],none⟩) rfl (fun K hK => ?_) AllReadyH.nil
                 rw [if_pos (by rfl)]
                 refine wp_store_mid _ _ _ rfl _ _ (List.toArray [.int .i64 A, .int .i64 B, .bool S.s, (.slice A0 n0 c0), (.slice B0 m0 d0), .bool X.s, (.slice Ax4 nx4 cx4), (.slice Bx4 mx4 dx4), .bool Y.s, (.slice Ay4 ny4 cy4), (.slice By4 my4 dy4)]) rfl rfl (S_13.out.there_ 7 rfl rfl) (size_link) (all_oneCell_toArray (cs := [.int .i64 A, .int .i64 B, .bool S.s, (.slice A0 n0 c0), (.slice B0 m0 d0), .bool X.s, (.slice Ax4 nx4 cx4), (.slice Bx4 mx4 dx4), .bool Y.s, (.slice Ay4 ny4 cy4), (.slice By4 my4 dy4)]) (List.all_eq_true.mp rfl)) ?_
                 simp only [Act.put]
                 have S_14 := Lib.hid (S_13.out.setKit 7 [.int .i64 A, .int .i64 B, .bool S.s, (.slice A0 n0 c0), (.slice B0 m0 d0), .bool X.s, (.slice Ax4 nx4 cx4), (.slice Bx4 mx4 dx4), .bool Y.s, (.slice Ay4 ny4 cy4), (.slice By4 my4 dy4)] rfl rfl)
                 clear S_13
                 refine hK.out _ _ (mkS_5 _ _ _ _ _ S_14.out) (fun hHeld29 => ?_)
                 clear hK K
                 try simp only [pm, s0, sS]
                 refine wpAnyH_done (by kernel_rfl) ?_ _
                 refine NoPanic.normal ?_
                 go_wp2_with fail
                 go_meet
                 refine ⟨_, Ax4, nx4, cx4, Bx4, mx4, dx4, Ay4, ny4, cy4, By4, my4, dy4, rfl, ?_⟩
                 exact ((((((S_14.out.drop 7).drop 6).drop 5).drop 3).drop 2).drop 1)
               exact AllReadyH.nil
             refine AllReadyH.cons (o := ⟨some 10,.alloc 34,0,"l06_links.go:148",#[],none⟩) rfl (fun K hK => ?_) ?_
             · go_simp
               have S_10 := Lib.hid (S_9.out.allocE [.int .i64 0, .int .i64 0, .bool false, .slice none 0 0, .slice none 0 0, .bool false, .slice none 0 0, .slice none 0 0, .bool false, .slice none 0 0, .slice none 0 0] 34)
               clear S_9
               refine hK.out _ _ (mkS_5 _ _ _ _ _ S_10.out) (fun hHeld28 => ?_)
               clear hK K
               try simp only [pm, s0, sS]
               refine wpAnyH_ready (rs := [23]) (by kernel_rfl) (by simp) ?_
               refine AllReadyH.cons (o := ⟨some 43,.call { callee := .value (.func 56),args := #[.tmp 40,.tmp 42],argTypes := #[32,32] },32,"l06_links.go:153",#[⟨20,.data⟩,⟨22,.data⟩,⟨19,.chain⟩],none⟩) rfl (fun K hK => ?_) AllReadyH.nil
               go_simp
               go_at_call_of 56 (Value.agg #[Value.bool V.s,(Value.slice Av nv cv),(Value.slice Bv mv dv)])
               go_at_call_of 56 (Value.agg #[Value.bool T.s,t0,t1])
               refine (times_f V T (.slice Av nv cv) (.slice Bv mv dv) t0 t1 _ GV.out GT.out (S_10.out.lkA HM.out).p (S_10.out.lkA HM.out).r).mono ?_
               rintro e wy2 ⟨vy2, uy2, rfl, ho, hb⟩
               obtain ⟨Ay2, ny2, cy2, rfl⟩ := (ho.at_ 0 rfl).shape3
               obtain ⟨By2, my2, dy2, rfl⟩ := (ho.at_ 1 rfl).shape3
               rw [HM4.out] at ho ⊢
               have S_11 := Lib.hid (S_10.out.rows ho hb)
               clear S_10 ho hb
               refine hK.out _ _ (mkS_5 _ _ _ _ _ S_11.out) (fun hHeld23 => ?_)
               clear hK K
               try simp only [pm, s0, sS]
               refine wpAnyH_ready (rs := [24]) (by kernel_rfl) (by simp) ?_
               refine AllReadyH.cons (o := ⟨some 44,.call { callee := .value (.func 55),args := #[.tmp 39,.tmp 43],argTypes := #[32,32] },32,"l06_links.go:153",#[⟨19,.data⟩,⟨23,.data⟩,⟨23,.chain⟩],none⟩) rfl (fun K hK => ?_) AllReadyH.nil
               go_simp
               go_at_call_of 55 (Value.agg #[Value.bool M3.s,(Value.slice Ay1 ny1 cy1),(Value.slice By1 my1 dy1)])
               refine (plus_f M3 M4 (.slice Ay1 ny1 cy1) (.slice By1 my1 dy1) (.slice Ay2 ny2 cy2) (.slice By2 my2 dy2) _ (HM3.out ▸ good_mul _ _) (HM4.out ▸ good_mul _ _) (S_11.out.fr 1 0 rfl rfl rfl) (S_11.out.fr 0 0 rfl rfl rfl)).mono ?_
               rintro e wy3 ⟨vy3, uy3, rfl, ho, hb⟩
               obtain ⟨Ay3, ny3, cy3, rfl⟩ := (ho.at_ 0 rfl).shape3
               obtain ⟨By3, my3, dy3, rfl⟩ := (ho.at_ 1 rfl).shape3
               rw [HN2.out] at ho ⊢
               have S_12 := Lib.hid (S_11.out.rows ho hb)
               clear S_11 ho hb
               refine hK.out _ _ (mkS_5 _ _ _ _ _ S_12.out) (fun hHeld24 => ?_)
               clear hK K
               try simp only [pm, s0, sS]
               refine wpAnyH_ready (rs := [26]) (by kernel_rfl) (by simp) ?_
               refine AllReadyH.cons (o := ⟨some 46,.call { callee := .value (.func 80),args := #[.tmp 44,.tmp 45],argTypes := #[32,32] },32,"l06_links.go:153",#[⟨24,.data⟩,⟨25,.data⟩,⟨24,.chain⟩],none⟩) rfl (fun K hK => ?_) AllReadyH.nil
               go_simp
               go_at_call_of 80 (Value.agg #[Value.bool N2.s,(Value.slice Ay3 ny3 cy3),(Value.slice By3 my3 dy3)])
               refine (dividedBy_f N2 S (.slice Ay3 ny3 cy3) (.slice By3 my3 dy3) (.slice A0 n0 c0) (.slice B0 m0 d0) _ (HN2.out ▸ good_add _ _) (HS.out ▸ good_add P V) (S_12.out.fr 0 0 rfl rfl rfl) (S_12.out.fr 7 0 rfl rfl rfl)).mono ?_
               rintro e wy4 ⟨vy4, uy4, rfl, ho, hb⟩
               obtain ⟨Ay4, ny4, cy4, rfl⟩ := (ho.at_ 0 rfl).shape3
               obtain ⟨By4, my4, dy4, rfl⟩ := (ho.at_ 1 rfl).shape3
               rw [HY.out] at ho ⊢
               have S_13 := Lib.hid (S_12.out.rows ho hb)
               clear S_12 ho hb
               refine hK.out _ _ (mkS_5 _ _ _ _ _ S_13.out) (fun hHeld26 => ?_)
               clear hK K
               try simp only [pm, s0, sS]
               refine tkH 27 ?_ ⟨some 47,.build 34 #[(0,.tmp 21),(1,.tmp 23),(2,.tmp 24),(3,.tmp 35),(4,.tmp 46)],34,"l06_links.go:148",#[⟨1,.data⟩,⟨3,.data⟩,⟨4,.data⟩,⟨15,.data⟩,⟨26,.data⟩],none⟩ ?_ ?_
               rotate_left
               · intro w9 hSw; (try dsimp only at hSw); go_simp; try with_reducible rfl
               try simp only [pm, s0, sS]
               refine wpAnyH_ready (rs := [29]) (by kernel_rfl) (by simp) ?_
               refine AllReadyH.cons (o := ⟨none,.store 34 (.tmp 10) (.tmp 47),0,"l06_links.go:148",#[⟨28,.data⟩,⟨27,.data⟩,⟨26,.chain⟩,⟨0,.phase⟩,⟨1,.phase⟩,⟨2,.phase⟩,⟨3,.phase⟩,⟨4,.phase⟩,⟨5,.phase⟩,⟨6,.phase⟩,⟨7,.phase⟩,⟨8,.phase⟩,⟨9,.phase⟩,⟨10,.phase⟩,⟨11,.phase⟩,⟨12,.phase⟩,⟨13,.phase⟩,⟨14,.phase⟩,⟨15,.phase⟩,⟨16,.phase⟩,⟨17,.phase⟩,⟨18,.phase⟩,⟨19,.phase⟩,⟨20,.phase⟩,⟨21,.phase⟩,⟨22,.phase⟩,⟨23,.phase⟩,⟨24,.phase⟩,⟨25,.phase⟩,⟨26,.phase⟩,⟨27,.phase⟩,⟨28,.phase⟩],none⟩) rfl (fun K hK => ?_) AllReadyH.nil
               rw [if_pos (by rfl)]
               refine wp_store_mid _ _ _ rfl _ _ (List.toArray [.int .i64 A, .int .i64 B, .bool S.s, (.slice A0 n0 c0), (.slice B0 m0 d0), .bool X.s, (.slice Ax4 nx4 cx4), (.slice Bx4 mx4 dx4), .bool Y.s, (.slice Ay4 ny4 cy4), (.slice By4 my4 dy4)]) rfl rfl (S_13.out.there_ 7 rfl rfl) (size_link) (all_oneCell_toArray (cs := [.int .i64 A, .int .i64 B, .bool S.s, (.slice A0 n0 c0), (.slice B0 m0 d0), .bool X.s, (.slice Ax4 nx4 cx4), (.slice Bx4 mx4 dx4), .bool Y.s, (.slice Ay4 ny4 cy4), (.slice By4 my4 dy4)]) (List.all_eq_true.mp rfl)) ?_
               simp only [Act.put]
               have S_14 := Lib.hid (S_13.out.setKit 7 [.int .i64 A, .int .i64 B, .bool S.s, (.slice A0 n0 c0), (.slice B0 m0 d0), .bool X.s, (.slice Ax4 nx4 cx4), (.slice Bx4 mx4 dx4), .bool Y.s, (.slice Ay4 ny4 cy4), (.slice By4 my4 dy4)] rfl rfl)
               clear S_13
               refine hK.out _ _ (mkS_5 _ _ _ _ _ S_14.out) (fun hHeld29 => ?_)
               clear hK K
               try simp only [pm, s0, sS]
               refine wpAnyH_done (by kernel_rfl) ?_ _
               refine NoPanic.normal ?_
               go_wp2_with fail
               go_meet
               refine ⟨_, Ax4, nx4, cx4, Bx4, mx4, dx4, Ay4, ny4, cy4, By4, my4, dy4, rfl, ?_⟩
               exact ((((((S_14.out.drop 7).drop 6).drop 5).drop 3).drop 2).drop 1)
             exact AllReadyH.nil
           refine AllReadyH.cons (o := ⟨some 10,.alloc 34,0,"l06_links.go:148",#[],none⟩) rfl (fun K hK => ?_) ?_
           · go_simp
             have S_9 := Lib.hid (S_8.out.allocE [.int .i64 0, .int .i64 0, .bool false, .slice none 0 0, .slice none 0 0, .bool false, .slice none 0 0, .slice none 0 0, .bool false, .slice none 0 0, .slice none 0 0] 34)
             clear S_8
             refine hK.out _ _ (mkS_5 _ _ _ _ _ S_9.out) (fun hHeld28 => ?_)
             clear hK K
             try simp only [pm, s0, sS]
             refine wpAnyH_ready (rs := [19]) (by kernel_rfl) (by simp) ?_
             refine AllReadyH.cons (o := ⟨some 39,.call { callee := .value (.func 56),args := #[.tmp 36,.tmp 38],argTypes := #[32,32] },32,"l06_links.go:153",#[⟨16,.data⟩,⟨18,.data⟩,⟨15,.chain⟩],none⟩) rfl (fun K hK => ?_) AllReadyH.nil
             go_simp
             go_at_call_of 56 (Value.agg #[Value.bool P.s,(Value.slice Ap np cp),(Value.slice Bp mp dp)])
             go_at_call_of 56 (Value.agg #[Value.bool R.s,r0,r1])
             refine (times_f P R (.slice Ap np cp) (.slice Bp mp dp) r0 r1 _ GP.out GR.out (S_9.out.lkA HL.out).p (S_9.out.lkA HL.out).r).mono ?_
             rintro e wy1 ⟨vy1, uy1, rfl, ho, hb⟩
             obtain ⟨Ay1, ny1, cy1, rfl⟩ := (ho.at_ 0 rfl).shape3
             obtain ⟨By1, my1, dy1, rfl⟩ := (ho.at_ 1 rfl).shape3
             rw [HM3.out] at ho ⊢
             have S_10 := Lib.hid (S_9.out.rows ho hb)
             clear S_9 ho hb
             refine hK.out _ _ (mkS_5 _ _ _ _ _ S_10.out) (fun hHeld19 => ?_)
             clear hK K
             try simp only [pm, s0, sS]
             refine wpAnyH_ready (rs := [23]) (by kernel_rfl) (by simp) ?_
             refine AllReadyH.cons (o := ⟨some 43,.call { callee := .value (.func 56),args := #[.tmp 40,.tmp 42],argTypes := #[32,32] },32,"l06_links.go:153",#[⟨20,.data⟩,⟨22,.data⟩,⟨19,.chain⟩],none⟩) rfl (fun K hK => ?_) AllReadyH.nil
             go_simp
             go_at_call_of 56 (Value.agg #[Value.bool V.s,(Value.slice Av nv cv),(Value.slice Bv mv dv)])
             go_at_call_of 56 (Value.agg #[Value.bool T.s,t0,t1])
             refine (times_f V T (.slice Av nv cv) (.slice Bv mv dv) t0 t1 _ GV.out GT.out (S_10.out.lkA HM.out).p (S_10.out.lkA HM.out).r).mono ?_
             rintro e wy2 ⟨vy2, uy2, rfl, ho, hb⟩
             obtain ⟨Ay2, ny2, cy2, rfl⟩ := (ho.at_ 0 rfl).shape3
             obtain ⟨By2, my2, dy2, rfl⟩ := (ho.at_ 1 rfl).shape3
             rw [HM4.out] at ho ⊢
             have S_11 := Lib.hid (S_10.out.rows ho hb)
             clear S_10 ho hb
             refine hK.out _ _ (mkS_5 _ _ _ _ _ S_11.out) (fun hHeld23 => ?_)
             clear hK K
             try simp only [pm, s0, sS]
             refine wpAnyH_ready (rs := [24]) (by kernel_rfl) (by simp) ?_
             refine AllReadyH.cons (o := ⟨some 44,.call { callee := .value (.func 55),args := #[.tmp 39,.tmp 43],argTypes := #[32,32] },32,"l06_links.go:153",#[⟨19,.data⟩,⟨23,.data⟩,⟨23,.chain⟩],none⟩) rfl (fun K hK => ?_) AllReadyH.nil
             go_simp
             go_at_call_of 55 (Value.agg #[Value.bool M3.s,(Value.slice Ay1 ny1 cy1),(Value.slice By1 my1 dy1)])
             refine (plus_f M3 M4 (.slice Ay1 ny1 cy1) (.slice By1 my1 dy1) (.slice Ay2 ny2 cy2) (.slice By2 my2 dy2) _ (HM3.out ▸ good_mul _ _) (HM4.out ▸ good_mul _ _) (S_11.out.fr 1 0 rfl rfl rfl) (S_11.out.fr 0 0 rfl rfl rfl)).mono ?_
             rintro e wy3 ⟨vy3, uy3, rfl, ho, hb⟩
             obtain ⟨Ay3, ny3, cy3, rfl⟩ := (ho.at_ 0 rfl).shape3
             obtain ⟨By3, my3, dy3, rfl⟩ := (ho.at_ 1 rfl).shape3
             rw [HN2.out] at ho ⊢
             have S_12 := Lib.hid (S_11.out.rows ho hb)
             clear S_11 ho hb
             refine hK.out _ _ (mkS_5 _ _ _ _ _ S_12.out) (fun hHeld24 => ?_)
             clear hK K
             try simp only [pm, s0, sS]
             refine wpAnyH_ready (rs := [26]) (by kernel_rfl) (by simp) ?_
             refine AllReadyH.cons (o := ⟨some 46,.call { callee := .value (.func 80),args := #[.tmp 44,.tmp 45],argTypes := #[32,32] },32,"l06_links.go:153",#[⟨24,.data⟩,⟨25,.data⟩,⟨24,.chain⟩],none⟩) rfl (fun K hK => ?_) AllReadyH.nil
             go_simp
             go_at_call_of 80 (Value.agg #[Value.bool N2.s,(Value.slice Ay3 ny3 cy3),(Value.slice By3 my3 dy3)])
             refine (dividedBy_f N2 S (.slice Ay3 ny3 cy3) (.slice By3 my3 dy3) (.slice A0 n0 c0) (.slice B0 m0 d0) _ (HN2.out ▸ good_add _ _) (HS.out ▸ good_add P V) (S_12.out.fr 0 0 rfl rfl rfl) (S_12.out.fr 7 0 rfl rfl rfl)).mono ?_
             rintro e wy4 ⟨vy4, uy4, rfl, ho, hb⟩
             obtain ⟨Ay4, ny4, cy4, rfl⟩ := (ho.at_ 0 rfl).shape3
             obtain ⟨By4, my4, dy4, rfl⟩ := (ho.at_ 1 rfl).shape3
             rw [HY.out] at ho ⊢
             have S_13 := Lib.hid (S_12.out.rows ho hb)
             clear S_12 ho hb
             refine hK.out _ _ (mkS_5 _ _ _ _ _ S_13.out) (fun hHeld26 => ?_)
             clear hK K
             try simp only [pm, s0, sS]
             refine tkH 27 ?_ ⟨some 47,.build 34 #[(0,.tmp 21),(1,.tmp 23),(2,.tmp 24),(3,.tmp 35),(4,.tmp 46)],34,"l06_links.go:148",#[⟨1,.data⟩,⟨3,.data⟩,⟨4,.data⟩,⟨15,.data⟩,⟨26,.data⟩],none⟩ ?_ ?_
             rotate_left
             · intro w9 hSw; (try dsimp only at hSw); go_simp; try with_reducible rfl
             try simp only [pm, s0, sS]
             refine wpAnyH_ready (rs := [29]) (by kernel_rfl) (by simp) ?_
             refine AllReadyH.cons (o := ⟨none,.store 34 (.tmp 10) (.tmp 47),0,"l06_links.go:148",#[⟨28,.data⟩,⟨27,.data⟩,⟨26,.chain⟩,⟨0,.phase⟩,⟨1,.phase⟩,⟨2,.phase⟩,⟨3,.phase⟩,⟨4,.phase⟩,⟨5,.phase⟩,⟨6,.phase⟩,⟨7,.phase⟩,⟨8,.phase⟩,⟨9,.phase⟩,⟨10,.phase⟩,⟨11,.phase⟩,⟨12,.phase⟩,⟨13,.phase⟩,⟨14,.phase⟩,⟨15,.phase⟩,⟨16,.phase⟩,⟨17,.phase⟩,⟨18,.phase⟩,⟨19,.phase⟩,⟨20,.phase⟩,⟨21,.phase⟩,⟨22,.phase⟩,⟨23,.phase⟩,⟨24,.phase⟩,⟨25,.phase⟩,⟨26,.phase⟩,⟨27,.phase⟩,⟨28,.phase⟩],none⟩) rfl (fun K hK => ?_) AllReadyH.nil
             rw [if_pos (by rfl)]
             refine wp_store_mid _ _ _ rfl _ _ (List.toArray [.int .i64 A, .int .i64 B, .bool S.s, (.slice A0 n0 c0), (.slice B0 m0 d0), .bool X.s, (.slice Ax4 nx4 cx4), (.slice Bx4 mx4 dx4), .bool Y.s, (.slice Ay4 ny4 cy4), (.slice By4 my4 dy4)]) rfl rfl (S_13.out.there_ 7 rfl rfl) (size_link) (all_oneCell_toArray (cs := [.int .i64 A, .int .i64 B, .bool S.s, (.slice A0 n0 c0), (.slice B0 m0 d0), .bool X.s, (.slice Ax4 nx4 cx4), (.slice Bx4 mx4 dx4), .bool Y.s, (.slice Ay4 ny4 cy4), (.slice By4 my4 dy4)]) (List.all_eq_true.mp rfl)) ?_
             simp only [Act.put]
             have S_14 := Lib.hid (S_13.out.setKit 7 [.int .i64 A, .int .i64 B, .bool S.s, (.slice A0 n0 c0), (.slice B0 m0 d0), .bool X.s, (.slice Ax4 nx4 cx4), (.slice Bx4 mx4 dx4), .bool Y.s, (.slice Ay4 ny4 cy4), (.slice By4 my4 dy4)] rfl rfl)
             clear S_13
             refine hK.out _ _ (mkS_5 _ _ _ _ _ S_14.out) (fun hHeld29 => ?_)
             clear hK K
             try simp only [pm, s0, sS]
             refine wpAnyH_done (by kernel_rfl) ?_ _
             refine NoPanic.normal ?_
             go_wp2_with fail
             go_meet
             refine ⟨_, Ax4, nx4, cx4, Bx4, mx4, dx4, Ay4, ny4, cy4, By4, my4, dy4, rfl, ?_⟩
             exact ((((((S_14.out.drop 7).drop 6).drop 5).drop 3).drop 2).drop 1)
           exact AllReadyH.nil
         refine AllReadyH.cons (o := ⟨some 10,.alloc 34,0,"l06_links.go:148",#[],none⟩) rfl (fun K hK => ?_) ?_
         · go_simp
           have S_8 := Lib.hid (S_7.out.allocE [.int .i64 0, .int .i64 0, .bool false, .slice none 0 0, .slice none 0 0, .bool false, .slice none 0 0, .slice none 0 0, .bool false, .slice none 0 0, .slice none 0 0] 34)
           clear S_7
           refine hK.out _ _ (mkS_5 _ _ _ _ _ S_8.out) (fun hHeld28 => ?_)
           clear hK K
           try simp only [pm, s0, sS]
           refine wpAnyH_ready (rs := [15]) (by kernel_rfl) (by simp) ?_
           refine AllReadyH.cons (o := ⟨some 35,.call { callee := .value (.func 80),args := #[.tmp 33,.tmp 34],argTypes := #[32,32] },32,"l06_links.go:152",#[⟨13,.data⟩,⟨14,.data⟩,⟨13,.chain⟩],none⟩) rfl (fun K hK => ?_) AllReadyH.nil
           go_simp
           go_at_call_of 80 (Value.agg #[Value.bool N1.s,(Value.slice Ax3 nx3 cx3),(Value.slice Bx3 mx3 dx3)])
           refine (dividedBy_f N1 S (.slice Ax3 nx3 cx3) (.slice Bx3 mx3 dx3) (.slice A0 n0 c0) (.slice B0 m0 d0) _ (HN1.out ▸ good_add _ _) (HS.out ▸ good_add P V) (S_8.out.fr 0 0 rfl rfl rfl) (S_8.out.fr 3 0 rfl rfl rfl)).mono ?_
           rintro e wx4 ⟨vx4, ux4, rfl, ho, hb⟩
           obtain ⟨Ax4, nx4, cx4, rfl⟩ := (ho.at_ 0 rfl).shape3
           obtain ⟨Bx4, mx4, dx4, rfl⟩ := (ho.at_ 1 rfl).shape3
           rw [HX.out] at ho ⊢
           have S_9 := Lib.hid (S_8.out.rows ho hb)
           clear S_8 ho hb
           refine hK.out _ _ (mkS_5 _ _ _ _ _ S_9.out) (fun hHeld15 => ?_)
           clear hK K
           try simp only [pm, s0, sS]
           refine wpAnyH_ready (rs := [19]) (by kernel_rfl) (by simp) ?_
           refine AllReadyH.cons (o := ⟨some 39,.call { callee := .value (.func 56),args := #[.tmp 36,.tmp 38],argTypes := #[32,32] },32,"l06_links.go:153",#[⟨16,.data⟩,⟨18,.data⟩,⟨15,.chain⟩],none⟩) rfl (fun K hK => ?_) AllReadyH.nil
           go_simp
           go_at_call_of 56 (Value.agg #[Value.bool P.s,(Value.slice Ap np cp),(Value.slice Bp mp dp)])
           go_at_call_of 56 (Value.agg #[Value.bool R.s,r0,r1])
           refine (times_f P R (.slice Ap np cp) (.slice Bp mp dp) r0 r1 _ GP.out GR.out (S_9.out.lkA HL.out).p (S_9.out.lkA HL.out).r).mono ?_
           rintro e wy1 ⟨vy1, uy1, rfl, ho, hb⟩
           obtain ⟨Ay1, ny1, cy1, rfl⟩ := (ho.at_ 0 rfl).shape3
           obtain ⟨By1, my1, dy1, rfl⟩ := (ho.at_ 1 rfl).shape3
           rw [HM3.out] at ho ⊢
           have S_10 := Lib.hid (S_9.out.rows ho hb)
           clear S_9 ho hb
           refine hK.out _ _ (mkS_5 _ _ _ _ _ S_10.out) (fun hHeld19 => ?_)
           clear hK K
           try simp only [pm, s0, sS]
           refine wpAnyH_ready (rs := [23]) (by kernel_rfl) (by simp) ?_
           refine AllReadyH.cons (o := ⟨some 43,.call { callee := .value (.func 56),args := #[.tmp 40,.tmp 42],argTypes := #[32,32] },32,"l06_links.go:153",#[⟨20,.data⟩,⟨22,.data⟩,⟨19,.chain⟩],none⟩) rfl (fun K hK => ?_) AllReadyH.nil
           go_simp
           go_at_call_of 56 (Value.agg #[Value.bool V.s,(Value.slice Av nv cv),(Value.slice Bv mv dv)])
           go_at_call_of 56 (Value.agg #[Value.bool T.s,t0,t1])
           refine (times_f V T (.slice Av nv cv) (.slice Bv mv dv) t0 t1 _ GV.out GT.out (S_10.out.lkA HM.out).p (S_10.out.lkA HM.out).r).mono ?_
           rintro e wy2 ⟨vy2, uy2, rfl, ho, hb⟩
           obtain ⟨Ay2, ny2, cy2, rfl⟩ := (ho.at_ 0 rfl).shape3
           obtain ⟨By2, my2, dy2, rfl⟩ := (ho.at_ 1 rfl).shape3
           rw [HM4.out] at ho ⊢
           have S_11 := Lib.hid (S_10.out.rows ho hb)
           clear S_10 ho hb
           refine hK.out _ _ (mkS_5 _ _ _ _ _ S_11.out) (fun hHeld23 => ?_)
           clear hK K
           try simp only [pm, s0, sS]
           refine wpAnyH_ready (rs := [24]) (by kernel_rfl) (by simp) ?_
           refine AllReadyH.cons (o := ⟨some 44,.call { callee := .value (.func 55),args := #[.tmp 39,.tmp 43],argTypes := #[32,32] },32,"l06_links.go:153",#[⟨19,.data⟩,⟨23,.data⟩,⟨23,.chain⟩],none⟩) rfl (fun K hK => ?_) AllReadyH.nil
           go_simp
           go_at_call_of 55 (Value.agg #[Value.bool M3.s,(Value.slice Ay1 ny1 cy1),(Value.slice By1 my1 dy1)])
           refine (plus_f M3 M4 (.slice Ay1 ny1 cy1) (.slice By1 my1 dy1) (.slice Ay2 ny2 cy2) (.slice By2 my2 dy2) _ (HM3.out ▸ good_mul _ _) (HM4.out ▸ good_mul _ _) (S_11.out.fr 1 0 rfl rfl rfl) (S_11.out.fr 0 0 rfl rfl rfl)).mono ?_
           rintro e wy3 ⟨vy3, uy3, rfl, ho, hb⟩
           obtain ⟨Ay3, ny3, cy3, rfl⟩ := (ho.at_ 0 rfl).shape3
           obtain ⟨By3, my3, dy3, rfl⟩ := (ho.at_ 1 rfl).shape3
           rw [HN2.out] at ho ⊢
           have S_12 := Lib.hid (S_11.out.rows ho hb)
           clear S_11 ho hb
           refine hK.out _ _ (mkS_5 _ _ _ _ _ S_12.out) (fun hHeld24 => ?_)
           clear hK K
           try simp only [pm, s0, sS]
           refine wpAnyH_ready (rs := [26]) (by kernel_rfl) (by simp) ?_
           refine AllReadyH.cons (o := ⟨some 46,.call { callee := .value (.func 80),args := #[.tmp 44,.tmp 45],argTypes := #[32,32] },32,"l06_links.go:153",#[⟨24,.data⟩,⟨25,.data⟩,⟨24,.chain⟩],none⟩) rfl (fun K hK => ?_) AllReadyH.nil
           go_simp
           go_at_call_of 80 (Value.agg #[Value.bool N2.s,(Value.slice Ay3 ny3 cy3),(Value.slice By3 my3 dy3)])
           refine (dividedBy_f N2 S (.slice Ay3 ny3 cy3) (.slice By3 my3 dy3) (.slice A0 n0 c0) (.slice B0 m0 d0) _ (HN2.out ▸ good_add _ _) (HS.out ▸ good_add P V) (S_12.out.fr 0 0 rfl rfl rfl) (S_12.out.fr 7 0 rfl rfl rfl)).mono ?_
           rintro e wy4 ⟨vy4, uy4, rfl, ho, hb⟩
           obtain ⟨Ay4, ny4, cy4, rfl⟩ := (ho.at_ 0 rfl).shape3
           obtain ⟨By4, my4, dy4, rfl⟩ := (ho.at_ 1 rfl).shape3
           rw [HY.out] at ho ⊢
           have S_13 := Lib.hid (S_12.out.rows ho hb)
           clear S_12 ho hb
           refine hK.out _ _ (mkS_5 _ _ _ _ _ S_13.out) (fun hHeld26 => ?_)
           clear hK K
           try simp only [pm, s0, sS]
           refine tkH 27 ?_ ⟨some 47,.build 34 #[(0,.tmp 21),(1,.tmp 23),(2,.tmp 24),(3,.tmp 35),(4,.tmp 46)],34,"l06_links.go:148",#[⟨1,.data⟩,⟨3,.data⟩,⟨4,.data⟩,⟨15,.data⟩,⟨26,.data⟩],none⟩ ?_ ?_
           rotate_left
           · intro w9 hSw; (try dsimp only at hSw); go_simp; try with_reducible rfl
           try simp only [pm, s0, sS]
           refine wpAnyH_ready (rs := [29]) (by kernel_rfl) (by simp) ?_
           refine AllReadyH.cons (o := ⟨none,.store 34 (.tmp 10) (.tmp 47),0,"l06_links.go:148",#[⟨28,.data⟩,⟨27,.data⟩,⟨26,.chain⟩,⟨0,.phase⟩,⟨1,.phase⟩,⟨2,.phase⟩,⟨3,.phase⟩,⟨4,.phase⟩,⟨5,.phase⟩,⟨6,.phase⟩,⟨7,.phase⟩,⟨8,.phase⟩,⟨9,.phase⟩,⟨10,.phase⟩,⟨11,.phase⟩,⟨12,.phase⟩,⟨13,.phase⟩,⟨14,.phase⟩,⟨15,.phase⟩,⟨16,.phase⟩,⟨17,.phase⟩,⟨18,.phase⟩,⟨19,.phase⟩,⟨20,.phase⟩,⟨21,.phase⟩,⟨22,.phase⟩,⟨23,.phase⟩,⟨24,.phase⟩,⟨25,.phase⟩,⟨26,.phase⟩,⟨27,.phase⟩,⟨28,.phase⟩],none⟩) rfl (fun K hK => ?_) AllReadyH.nil
           rw [if_pos (by rfl)]
           refine wp_store_mid _ _ _ rfl _ _ (List.toArray [.int .i64 A, .int .i64 B, .bool S.s, (.slice A0 n0 c0), (.slice B0 m0 d0), .bool X.s, (.slice Ax4 nx4 cx4), (.slice Bx4 mx4 dx4), .bool Y.s, (.slice Ay4 ny4 cy4), (.slice By4 my4 dy4)]) rfl rfl (S_13.out.there_ 7 rfl rfl) (size_link) (all_oneCell_toArray (cs := [.int .i64 A, .int .i64 B, .bool S.s, (.slice A0 n0 c0), (.slice B0 m0 d0), .bool X.s, (.slice Ax4 nx4 cx4), (.slice Bx4 mx4 dx4), .bool Y.s, (.slice Ay4 ny4 cy4), (.slice By4 my4 dy4)]) (List.all_eq_true.mp rfl)) ?_
           simp only [Act.put]
           have S_14 := Lib.hid (S_13.out.setKit 7 [.int .i64 A, .int .i64 B, .bool S.s, (.slice A0 n0 c0), (.slice B0 m0 d0), .bool X.s, (.slice Ax4 nx4 cx4), (.slice Bx4 mx4 dx4), .bool Y.s, (.slice Ay4 ny4 cy4), (.slice By4 my4 dy4)] rfl rfl)
           clear S_13
           refine hK.out _ _ (mkS_5 _ _ _ _ _ S_14.out) (fun hHeld29 => ?_)
           clear hK K
           try simp only [pm, s0, sS]
           refine wpAnyH_done (by kernel_rfl) ?_ _
           refine NoPanic.normal ?_
           go_wp2_with fail
           go_meet
           refine ⟨_, Ax4, nx4, cx4, Bx4, mx4, dx4, Ay4, ny4, cy4, By4, my4, dy4, rfl, ?_⟩
           exact ((((((S_14.out.drop 7).drop 6).drop 5).drop 3).drop 2).drop 1)
         exact AllReadyH.nil
       refine AllReadyH.cons (o := ⟨some 10,.alloc 34,0,"l06_links.go:148",#[],none⟩) rfl (fun K hK => ?_) ?_
       · go_simp
         have S_7 := Lib.hid (S_6.out.allocE [.int .i64 0, .int .i64 0, .bool false, .slice none 0 0, .slice none 0 0, .bool false, .slice none 0 0, .slice none 0 0, .bool false, .slice none 0 0, .slice none 0 0] 34)
         clear S_6
         refine hK.out _ _ (mkS_5 _ _ _ _ _ S_7.out) (fun hHeld28 => ?_)
         clear hK K
         try simp only [pm, s0, sS]
         refine wpAnyH_ready (rs := [13]) (by kernel_rfl) (by simp) ?_
         refine AllReadyH.cons (o := ⟨some 33,.call { callee := .value (.func 55),args := #[.tmp 28,.tmp 32],argTypes := #[32,32] },32,"l06_links.go:152",#[⟨8,.data⟩,⟨12,.data⟩,⟨12,.chain⟩],none⟩) rfl (fun K hK => ?_) AllReadyH.nil
         go_simp
         go_at_call_of 55 (Value.agg #[Value.bool M1.s,(Value.slice Ax1 nx1 cx1),(Value.slice Bx1 mx1 dx1)])
         refine (plus_f M1 M2 (.slice Ax1 nx1 cx1) (.slice Bx1 mx1 dx1) (.slice Ax2 nx2 cx2) (.slice Bx2 mx2 dx2) _ (HM1.out ▸ good_mul _ _) (HM2.out ▸ good_mul _ _) (S_7.out.fr 1 0 rfl rfl rfl) (S_7.out.fr 0 0 rfl rfl rfl)).mono ?_
         rintro e wx3 ⟨vx3, ux3, rfl, ho, hb⟩
         obtain ⟨Ax3, nx3, cx3, rfl⟩ := (ho.at_ 0 rfl).shape3
         obtain ⟨Bx3, mx3, dx3, rfl⟩ := (ho.at_ 1 rfl).shape3
         rw [HN1.out] at ho ⊢
         have S_8 := Lib.hid (S_7.out.rows ho hb)
         clear S_7 ho hb
         refine hK.out _ _ (mkS_5 _ _ _ _ _ S_8.out) (fun hHeld13 => ?_)
         clear hK K
         try simp only [pm, s0, sS]
         refine wpAnyH_ready (rs := [15]) (by kernel_rfl) (by simp) ?_
         refine AllReadyH.cons (o := ⟨some 35,.call { callee := .value (.func 80),args := #[.tmp 33,.tmp 34],argTypes := #[32,32] },32,"l06_links.go:152",#[⟨13,.data⟩,⟨14,.data⟩,⟨13,.chain⟩],none⟩) rfl (fun K hK => ?_) AllReadyH.nil
         go_simp
         go_at_call_of 80 (Value.agg #[Value.bool N1.s,(Value.slice Ax3 nx3 cx3),(Value.slice Bx3 mx3 dx3)])
         refine (dividedBy_f N1 S (.slice Ax3 nx3 cx3) (.slice Bx3 mx3 dx3) (.slice A0 n0 c0) (.slice B0 m0 d0) _ (HN1.out ▸ good_add _ _) (HS.out ▸ good_add P V) (S_8.out.fr 0 0 rfl rfl rfl) (S_8.out.fr 3 0 rfl rfl rfl)).mono ?_
         rintro e wx4 ⟨vx4, ux4, rfl, ho, hb⟩
         obtain ⟨Ax4, nx4, cx4, rfl⟩ := (ho.at_ 0 rfl).shape3
         obtain ⟨Bx4, mx4, dx4, rfl⟩ := (ho.at_ 1 rfl).shape3
         rw [HX.out] at ho ⊢
         have S_9 := Lib.hid (S_8.out.rows ho hb)
         clear S_8 ho hb
         refine hK.out _ _ (mkS_5 _ _ _ _ _ S_9.out) (fun hHeld15 => ?_)
         clear hK K
         try simp only [pm, s0, sS]
         refine wpAnyH_ready (rs := [19]) (by kernel_rfl) (by simp) ?_
         refine AllReadyH.cons (o := ⟨some 39,.call { callee := .value (.func 56),args := #[.tmp 36,.tmp 38],argTypes := #[32,32] },32,"l06_links.go:153",#[⟨16,.data⟩,⟨18,.data⟩,⟨15,.chain⟩],none⟩) rfl (fun K hK => ?_) AllReadyH.nil
         go_simp
         go_at_call_of 56 (Value.agg #[Value.bool P.s,(Value.slice Ap np cp),(Value.slice Bp mp dp)])
         go_at_call_of 56 (Value.agg #[Value.bool R.s,r0,r1])
         refine (times_f P R (.slice Ap np cp) (.slice Bp mp dp) r0 r1 _ GP.out GR.out (S_9.out.lkA HL.out).p (S_9.out.lkA HL.out).r).mono ?_
         rintro e wy1 ⟨vy1, uy1, rfl, ho, hb⟩
         obtain ⟨Ay1, ny1, cy1, rfl⟩ := (ho.at_ 0 rfl).shape3
         obtain ⟨By1, my1, dy1, rfl⟩ := (ho.at_ 1 rfl).shape3
         rw [HM3.out] at ho ⊢
         have S_10 := Lib.hid (S_9.out.rows ho hb)
         clear S_9 ho hb
         refine hK.out _ _ (mkS_5 _ _ _ _ _ S_10.out) (fun hHeld19 => ?_)
         clear hK K
         try simp only [pm, s0, sS]
         refine wpAnyH_ready (rs := [23]) (by kernel_rfl) (by simp) ?_
         refine AllReadyH.cons (o := ⟨some 43,.call { callee := .value (.func 56),args := #[.tmp 40,.tmp 42],argTypes := #[32,32] },32,"l06_links.go:153",#[⟨20,.data⟩,⟨22,.data⟩,⟨19,.chain⟩],none⟩) rfl (fun K hK => ?_) AllReadyH.nil
         go_simp
         go_at_call_of 56 (Value.agg #[Value.bool V.s,(Value.slice Av nv cv),(Value.slice Bv mv dv)])
         go_at_call_of 56 (Value.agg #[Value.bool T.s,t0,t1])
         refine (times_f V T (.slice Av nv cv) (.slice Bv mv dv) t0 t1 _ GV.out GT.out (S_10.out.lkA HM.out).p (S_10.out.lkA HM.out).r).mono ?_
         rintro e wy2 ⟨vy2, uy2, rfl, ho, hb⟩
         obtain ⟨Ay2, ny2, cy2, rfl⟩ := (ho.at_ 0 rfl).shape3
         obtain ⟨By2, my2, dy2, rfl⟩ := (ho.at_ 1 rfl).shape3
         rw [HM4.out] at ho ⊢
         have S_11 := Lib.hid (S_10.out.rows ho hb)
         clear S_10 ho hb
         refine hK.out _ _ (mkS_5 _ _ _ _ _ S_11.out) (fun hHeld23 => ?_)
         clear hK K
         try simp only [pm, s0, sS]
         refine wpAnyH_ready (rs := [24]) (by kernel_rfl) (by simp) ?_
         refine AllReadyH.cons (o := ⟨some 44,.call { callee := .value (.func 55),args := #[.tmp 39,.tmp 43],argTypes := #[32,32] },32,"l06_links.go:153",#[⟨19,.data⟩,⟨23,.data⟩,⟨23,.chain⟩],none⟩) rfl (fun K hK => ?_) AllReadyH.nil
         go_simp
         go_at_call_of 55 (Value.agg #[Value.bool M3.s,(Value.slice Ay1 ny1 cy1),(Value.slice By1 my1 dy1)])
         refine (plus_f M3 M4 (.slice Ay1 ny1 cy1) (.slice By1 my1 dy1) (.slice Ay2 ny2 cy2) (.slice By2 my2 dy2) _ (HM3.out ▸ good_mul _ _) (HM4.out ▸ good_mul _ _) (S_11.out.fr 1 0 rfl rfl rfl) (S_11.out.fr 0 0 rfl rfl rfl)).mono ?_
         rintro e wy3 ⟨vy3, uy3, rfl, ho, hb⟩
         obtain ⟨Ay3, ny3, cy3, rfl⟩ := (ho.at_ 0 rfl).shape3
         obtain ⟨By3, my3, dy3, rfl⟩ := (ho.at_ 1 rfl).shape3
         rw [HN2.out] at ho ⊢
         have S_12 := Lib.hid (S_11.out.rows ho hb)
         clear S_11 ho hb
         refine hK.out _ _ (mkS_5 _ _ _ _ _ S_12.out) (fun hHeld24 => ?_)
         clear hK K
         try simp only [pm, s0, sS]
         refine wpAnyH_ready (rs := [26]) (by kernel_rfl) (by simp) ?_
         refine AllReadyH.cons (o := ⟨some 46,.call { callee := .value (.func 80),args := #[.tmp 44,.tmp 45],argTypes := #[32,32] },32,"l06_links.go:153",#[⟨24,.data⟩,⟨25,.data⟩,⟨24,.chain⟩],none⟩) rfl (fun K hK => ?_) AllReadyH.nil
         go_simp
         go_at_call_of 80 (Value.agg #[Value.bool N2.s,(Value.slice Ay3 ny3 cy3),(Value.slice By3 my3 dy3)])
         refine (dividedBy_f N2 S (.slice Ay3 ny3 cy3) (.slice By3 my3 dy3) (.slice A0 n0 c0) (.slice B0 m0 d0) _ (HN2.out ▸ good_add _ _) (HS.out ▸ good_add P V) (S_12.out.fr 0 0 rfl rfl rfl) (S_12.out.fr 7 0 rfl rfl rfl)).mono ?_
         rintro e wy4 ⟨vy4, uy4, rfl, ho, hb⟩
         obtain ⟨Ay4, ny4, cy4, rfl⟩ := (ho.at_ 0 rfl).shape3
         obtain ⟨By4, my4, dy4, rfl⟩ := (ho.at_ 1 rfl).shape3
         rw [HY.out] at ho ⊢
         have S_13 := Lib.hid (S_12.out.rows ho hb)
         clear S_12 ho hb
         refine hK.out _ _ (mkS_5 _ _ _ _ _ S_13.out) (fun hHeld26 => ?_)
         clear hK K
         try simp only [pm, s0, sS]
         refine tkH 27 ?_ ⟨some 47,.build 34 #[(0,.tmp 21),(1,.tmp 23),(2,.tmp 24),(3,.tmp 35),(4,.tmp 46)],34,"l06_links.go:148",#[⟨1,.data⟩,⟨3,.data⟩,⟨4,.data⟩,⟨15,.data⟩,⟨26,.data⟩],none⟩ ?_ ?_
         rotate_left
         · intro w9 hSw; (try dsimp only at hSw); go_simp; try with_reducible rfl
         try simp only [pm, s0, sS]
         refine wpAnyH_ready (rs := [29]) (by kernel_rfl) (by simp) ?_
         refine AllReadyH.cons (o := ⟨none,.store 34 (.tmp 10) (.tmp 47),0,"l06_links.go:148",#[⟨28,.data⟩,⟨27,.data⟩,⟨26,.chain⟩,⟨0,.phase⟩,⟨1,.phase⟩,⟨2,.phase⟩,⟨3,.phase⟩,⟨4,.phase⟩,⟨5,.phase⟩,⟨6,.phase⟩,⟨7,.phase⟩,⟨8,.phase⟩,⟨9,.phase⟩,⟨10,.phase⟩,⟨11,.phase⟩,⟨12,.phase⟩,⟨13,.phase⟩,⟨14,.phase⟩,⟨15,.phase⟩,⟨16,.phase⟩,⟨17,.phase⟩,⟨18,.phase⟩,⟨19,.phase⟩,⟨20,.phase⟩,⟨21,.phase⟩,⟨22,.phase⟩,⟨23,.phase⟩,⟨24,.phase⟩,⟨25,.phase⟩,⟨26,.phase⟩,⟨27,.phase⟩,⟨28,.phase⟩],none⟩) rfl (fun K hK => ?_) AllReadyH.nil
         rw [if_pos (by rfl)]
         refine wp_store_mid _ _ _ rfl _ _ (List.toArray [.int .i64 A, .int .i64 B, .bool S.s, (.slice A0 n0 c0), (.slice B0 m0 d0), .bool X.s, (.slice Ax4 nx4 cx4), (.slice Bx4 mx4 dx4), .bool Y.s, (.slice Ay4 ny4 cy4), (.slice By4 my4 dy4)]) rfl rfl (S_13.out.there_ 7 rfl rfl) (size_link) (all_oneCell_toArray (cs := [.int .i64 A, .int .i64 B, .bool S.s, (.slice A0 n0 c0), (.slice B0 m0 d0), .bool X.s, (.slice Ax4 nx4 cx4), (.slice Bx4 mx4 dx4), .bool Y.s, (.slice Ay4 ny4 cy4), (.slice By4 my4 dy4)]) (List.all_eq_true.mp rfl)) ?_
         simp only [Act.put]
         have S_14 := Lib.hid (S_13.out.setKit 7 [.int .i64 A, .int .i64 B, .bool S.s, (.slice A0 n0 c0), (.slice B0 m0 d0), .bool X.s, (.slice Ax4 nx4 cx4), (.slice Bx4 mx4 dx4), .bool Y.s, (.slice Ay4 ny4 cy4), (.slice By4 my4 dy4)] rfl rfl)
         clear S_13
         refine hK.out _ _ (mkS_5 _ _ _ _ _ S_14.out) (fun hHeld29 => ?_)
         clear hK K
         try simp only [pm, s0, sS]
         refine wpAnyH_done (by kernel_rfl) ?_ _
         refine NoPanic.normal ?_
         go_wp2_with fail
         go_meet
         refine ⟨_, Ax4, nx4, cx4, Bx4, mx4, dx4, Ay4, ny4, cy4, By4, my4, dy4, rfl, ?_⟩
         exact ((((((S_14.out.drop 7).drop 6).drop 5).drop 3).drop 2).drop 1)
       exact AllReadyH.nil
     refine AllReadyH.cons (o := ⟨some 10,.alloc 34,0,"l06_links.go:148",#[],none⟩) rfl (fun K hK => ?_) ?_
     · go_simp
       have S_6 := Lib.hid (S_5.out.allocE [.int .i64 0, .int .i64 0, .bool false, .slice none 0 0, .slice none 0 0, .bool false, .slice none 0 0, .slice none 0 0, .bool false, .slice none 0 0, .slice none 0 0] 34)
       clear S_5
       refine hK.out _ _ (mkS_5 _ _ _ _ _ S_6.out) (fun hHeld28 => ?_)
       clear hK K
       try simp only [pm, s0, sS]
       refine wpAnyH_ready (rs := [12]) (by kernel_rfl) (by simp) ?_
       refine AllReadyH.cons (o := ⟨some 32,.call { callee := .value (.func 56),args := #[.tmp 29,.tmp 31],argTypes := #[32,32] },32,"l06_links.go:152",#[⟨9,.data⟩,⟨11,.data⟩,⟨8,.chain⟩],none⟩) rfl (fun K hK => ?_) AllReadyH.nil
       go_simp
       go_at_call_of 56 (Value.agg #[Value.bool V.s,(Value.slice Av nv cv),(Value.slice Bv mv dv)])
       go_at_call_of 56 (Value.agg #[Value.bool U.s,u0,u1])
       refine (times_f V U (.slice Av nv cv) (.slice Bv mv dv) u0 u1 _ GV.out GU.out (S_6.out.lkA HM.out).p (S_6.out.lkA HM.out).q).mono ?_
       rintro e wx2 ⟨vx2, ux2, rfl, ho, hb⟩
       obtain ⟨Ax2, nx2, cx2, rfl⟩ := (ho.at_ 0 rfl).shape3
       obtain ⟨Bx2, mx2, dx2, rfl⟩ := (ho.at_ 1 rfl).shape3
       rw [HM2.out] at ho ⊢
       have S_7 := Lib.hid (S_6.out.rows ho hb)
       clear S_6 ho hb
       refine hK.out _ _ (mkS_5 _ _ _ _ _ S_7.out) (fun hHeld12 => ?_)
       clear hK K
       try simp only [pm, s0, sS]
       refine wpAnyH_ready (rs := [13]) (by kernel_rfl) (by simp) ?_
       refine AllReadyH.cons (o := ⟨some 33,.call { callee := .value (.func 55),args := #[.tmp 28,.tmp 32],argTypes := #[32,32] },32,"l06_links.go:152",#[⟨8,.data⟩,⟨12,.data⟩,⟨12,.chain⟩],none⟩) rfl (fun K hK => ?_) AllReadyH.nil
       go_simp
       go_at_call_of 55 (Value.agg #[Value.bool M1.s,(Value.slice Ax1 nx1 cx1),(Value.slice Bx1 mx1 dx1)])
       refine (plus_f M1 M2 (.slice Ax1 nx1 cx1) (.slice Bx1 mx1 dx1) (.slice Ax2 nx2 cx2) (.slice Bx2 mx2 dx2) _ (HM1.out ▸ good_mul _ _) (HM2.out ▸ good_mul _ _) (S_7.out.fr 1 0 rfl rfl rfl) (S_7.out.fr 0 0 rfl rfl rfl)).mono ?_
       rintro e wx3 ⟨vx3, ux3, rfl, ho, hb⟩
       obtain ⟨Ax3, nx3, cx3, rfl⟩ := (ho.at_ 0 rfl).shape3
       obtain ⟨Bx3, mx3, dx3, rfl⟩ := (ho.at_ 1 rfl).shape3
       rw [HN1.out] at ho ⊢
       have S_8 := Lib.hid (S_7.out.rows ho hb)
       clear S_7 ho hb
       refine hK.out _ _ (mkS_5 _ _ _ _ _ S_8.out) (fun hHeld13 => ?_)
       clear hK K
       try simp only [pm, s0, sS]
       refine wpAnyH_ready (rs := [15]) (by kernel_rfl) (by simp) ?_
       refine AllReadyH.cons (o := ⟨some 35,.call { callee := .value (.func 80),args := #[.tmp 33,.tmp 34],argTypes := #[32,32] },32,"l06_links.go:152",#[⟨13,.data⟩,⟨14,.data⟩,⟨13,.chain⟩],none⟩) rfl (fun K hK => ?_) AllReadyH.nil
       go_simp
       go_at_call_of 80 (Value.agg #[Value.bool N1.s,(Value.slice Ax3 nx3 cx3),(Value.slice Bx3 mx3 dx3)])
       refine (dividedBy_f N1 S (.slice Ax3 nx3 cx3) (.slice Bx3 mx3 dx3) (.slice A0 n0 c0) (.slice B0 m0 d0) _ (HN1.out ▸ good_add _ _) (HS.out ▸ good_add P V) (S_8.out.fr 0 0 rfl rfl rfl) (S_8.out.fr 3 0 rfl rfl rfl)).mono ?_
       rintro e wx4 ⟨vx4, ux4, rfl, ho, hb⟩
       obtain ⟨Ax4, nx4, cx4, rfl⟩ := (ho.at_ 0 rfl).shape3
       obtain ⟨Bx4, mx4, dx4, rfl⟩ := (ho.at_ 1 rfl).shape3
       rw [HX.out] at ho ⊢
       have S_9 := Lib.hid (S_8.out.rows ho hb)
       clear S_8 ho hb
       refine hK.out _ _ (mkS_5 _ _ _ _ _ S_9.out) (fun hHeld15 => ?_)
       clear hK K
       try simp only [pm, s0, sS]
       refine wpAnyH_ready (rs := [19]) (by kernel_rfl) (by simp) ?_
       refine AllReadyH.cons (o := ⟨some 39,.call { callee := .value (.func 56),args := #[.tmp 36,.tmp 38],argTypes := #[32,32] },32,"l06_links.go:153",#[⟨16,.data⟩,⟨18,.data⟩,⟨15,.chain⟩],none⟩) rfl (fun K hK => ?_) AllReadyH.nil
       go_simp
       go_at_call_of 56 (Value.agg #[Value.bool P.s,(Value.slice Ap np cp),(Value.slice Bp mp dp)])
       go_at_call_of 56 (Value.agg #[Value.bool R.s,r0,r1])
       refine (times_f P R (.slice Ap np cp) (.slice Bp mp dp) r0 r1 _ GP.out GR.out (S_9.out.lkA HL.out).p (S_9.out.lkA HL.out).r).mono ?_
       rintro e wy1 ⟨vy1, uy1, rfl, ho, hb⟩
       obtain ⟨Ay1, ny1, cy1, rfl⟩ := (ho.at_ 0 rfl).shape3
       obtain ⟨By1, my1, dy1, rfl⟩ := (ho.at_ 1 rfl).shape3
       rw [HM3.out] at ho ⊢
       have S_10 := Lib.hid (S_9.out.rows ho hb)
       clear S_9 ho hb
       refine hK.out _ _ (mkS_5 _ _ _ _ _ S_10.out) (fun hHeld19 => ?_)
       clear hK K
       try simp only [pm, s0, sS]
       refine wpAnyH_ready (rs := [23]) (by kernel_rfl) (by simp) ?_
       refine AllReadyH.cons (o := ⟨some 43,.call { callee := .value (.func 56),args := #[.tmp 40,.tmp 42],argTypes := #[32,32] },32,"l06_links.go:153",#[⟨20,.data⟩,⟨22,.data⟩,⟨19,.chain⟩],none⟩) rfl (fun K hK => ?_) AllReadyH.nil
       go_simp
       go_at_call_of 56 (Value.agg #[Value.bool V.s,(Value.slice Av nv cv),(Value.slice Bv mv dv)])
       go_at_call_of 56 (Value.agg #[Value.bool T.s,t0,t1])
       refine (times_f V T (.slice Av nv cv) (.slice Bv mv dv) t0 t1 _ GV.out GT.out (S_10.out.lkA HM.out).p (S_10.out.lkA HM.out).r).mono ?_
       rintro e wy2 ⟨vy2, uy2, rfl, ho, hb⟩
       obtain ⟨Ay2, ny2, cy2, rfl⟩ := (ho.at_ 0 rfl).shape3
       obtain ⟨By2, my2, dy2, rfl⟩ := (ho.at_ 1 rfl).shape3
       rw [HM4.out] at ho ⊢
       have S_11 := Lib.hid (S_10.out.rows ho hb)
       clear S_10 ho hb
       refine hK.out _ _ (mkS_5 _ _ _ _ _ S_11.out) (fun hHeld23 => ?_)
       clear hK K
       try simp only [pm, s0, sS]
       refine wpAnyH_ready (rs := [24]) (by kernel_rfl) (by simp) ?_
       refine AllReadyH.cons (o := ⟨some 44,.call { callee := .value (.func 55),args := #[.tmp 39,.tmp 43],argTypes := #[32,32] },32,"l06_links.go:153",#[⟨19,.data⟩,⟨23,.data⟩,⟨23,.chain⟩],none⟩) rfl (fun K hK => ?_) AllReadyH.nil
       go_simp
       go_at_call_of 55 (Value.agg #[Value.bool M3.s,(Value.slice Ay1 ny1 cy1),(Value.slice By1 my1 dy1)])
       refine (plus_f M3 M4 (.slice Ay1 ny1 cy1) (.slice By1 my1 dy1) (.slice Ay2 ny2 cy2) (.slice By2 my2 dy2) _ (HM3.out ▸ good_mul _ _) (HM4.out ▸ good_mul _ _) (S_11.out.fr 1 0 rfl rfl rfl) (S_11.out.fr 0 0 rfl rfl rfl)).mono ?_
       rintro e wy3 ⟨vy3, uy3, rfl, ho, hb⟩
       obtain ⟨Ay3, ny3, cy3, rfl⟩ := (ho.at_ 0 rfl).shape3
       obtain ⟨By3, my3, dy3, rfl⟩ := (ho.at_ 1 rfl).shape3
       rw [HN2.out] at ho ⊢
       have S_12 := Lib.hid (S_11.out.rows ho hb)
       clear S_11 ho hb
       refine hK.out _ _ (mkS_5 _ _ _ _ _ S_12.out) (fun hHeld24 => ?_)
       clear hK K
       try simp only [pm, s0, sS]
       refine wpAnyH_ready (rs := [26]) (by kernel_rfl) (by simp) ?_
       refine AllReadyH.cons (o := ⟨some 46,.call { callee := .value (.func 80),args := #[.tmp 44,.tmp 45],argTypes := #[32,32] },32,"l06_links.go:153",#[⟨24,.data⟩,⟨25,.data⟩,⟨24,.chain⟩],none⟩) rfl (fun K hK => ?_) AllReadyH.nil
       go_simp
       go_at_call_of 80 (Value.agg #[Value.bool N2.s,(Value.slice Ay3 ny3 cy3),(Value.slice By3 my3 dy3)])
       refine (dividedBy_f N2 S (.slice Ay3 ny3 cy3) (.slice By3 my3 dy3) (.slice A0 n0 c0) (.slice B0 m0 d0) _ (HN2.out ▸ good_add _ _) (HS.out ▸ good_add P V) (S_12.out.fr 0 0 rfl rfl rfl) (S_12.out.fr 7 0 rfl rfl rfl)).mono ?_
       rintro e wy4 ⟨vy4, uy4, rfl, ho, hb⟩
       obtain ⟨Ay4, ny4, cy4, rfl⟩ := (ho.at_ 0 rfl).shape3
       obtain ⟨By4, my4, dy4, rfl⟩ := (ho.at_ 1 rfl).shape3
       rw [HY.out] at ho ⊢
       have S_13 := Lib.hid (S_12.out.rows ho hb)
       clear S_12 ho hb
       refine hK.out _ _ (mkS_5 _ _ _ _ _ S_13.out) (fun hHeld26 => ?_)
       clear hK K
       try simp only [pm, s0, sS]
       refine tkH 27 ?_ ⟨some 47,.build 34 #[(0,.tmp 21),(1,.tmp 23),(2,.tmp 24),(3,.tmp 35),(4,.tmp 46)],34,"l06_links.go:148",#[⟨1,.data⟩,⟨3,.data⟩,⟨4,.data⟩,⟨15,.data⟩,⟨26,.data⟩],none⟩ ?_ ?_
       rotate_left
       · intro w9 hSw; (try dsimp only at hSw); go_simp; try with_reducible rfl
       try simp only [pm, s0, sS]
       refine wpAnyH_ready (rs := [29]) (by kernel_rfl) (by simp) ?_
       refine AllReadyH.cons (o := ⟨none,.store 34 (.tmp 10) (.tmp 47),0,"l06_links.go:148",#[⟨28,.data⟩,⟨27,.data⟩,⟨26,.chain⟩,⟨0,.phase⟩,⟨1,.phase⟩,⟨2,.phase⟩,⟨3,.phase⟩,⟨4,.phase⟩,⟨5,.phase⟩,⟨6,.phase⟩,⟨7,.phase⟩,⟨8,.phase⟩,⟨9,.phase⟩,⟨10,.phase⟩,⟨11,.phase⟩,⟨12,.phase⟩,⟨13,.phase⟩,⟨14,.phase⟩,⟨15,.phase⟩,⟨16,.phase⟩,⟨17,.phase⟩,⟨18,.phase⟩,⟨19,.phase⟩,⟨20,.phase⟩,⟨21,.phase⟩,⟨22,.phase⟩,⟨23,.phase⟩,⟨24,.phase⟩,⟨25,.phase⟩,⟨26,.phase⟩,⟨27,.phase⟩,⟨28,.phase⟩],none⟩) rfl (fun K hK => ?_) AllReadyH.nil
       rw [if_pos (by rfl)]
       refine wp_store_mid _ _ _ rfl _ _ (List.toArray [.int .i64 A, .int .i64 B, .bool S.s, (.slice A0 n0 c0), (.slice B0 m0 d0), .bool X.s, (.slice Ax4 nx4 cx4), (.slice Bx4 mx4 dx4), .bool Y.s, (.slice Ay4 ny4 cy4), (.slice By4 my4 dy4)]) rfl rfl (S_13.out.there_ 7 rfl rfl) (size_link) (all_oneCell_toArray (cs := [.int .i64 A, .int .i64 B, .bool S.s, (.slice A0 n0 c0), (.slice B0 m0 d0), .bool X.s, (.slice Ax4 nx4 cx4), (.slice Bx4 mx4 dx4), .bool Y.s, (.slice Ay4 ny4 cy4), (.slice By4 my4 dy4)]) (List.all_eq_true.mp rfl)) ?_
       simp only [Act.put]
       have S_14 := Lib.hid (S_13.out.setKit 7 [.int .i64 A, .int .i64 B, .bool S.s, (.slice A0 n0 c0), (.slice B0 m0 d0), .bool X.s, (.slice Ax4 nx4 cx4), (.slice Bx4 mx4 dx4), .bool Y.s, (.slice Ay4 ny4 cy4), (.slice By4 my4 dy4)] rfl rfl)
       clear S_13
       refine hK.out _ _ (mkS_5 _ _ _ _ _ S_14.out) (fun hHeld29 => ?_)
       clear hK K
       try simp only [pm, s0, sS]
       refine wpAnyH_done (by kernel_rfl) ?_ _
       refine NoPanic.normal ?_
       go_wp2_with fail
       go_meet
       refine ⟨_, Ax4, nx4, cx4, Bx4, mx4, dx4, Ay4, ny4, cy4, By4, my4, dy4, rfl, ?_⟩
       exact ((((((S_14.out.drop 7).drop 6).drop 5).drop 3).drop 2).drop 1)
     exact AllReadyH.nil
   refine AllReadyH.cons (o := ⟨some 10,.alloc 34,0,"l06_links.go:148",#[],none⟩) rfl (fun K hK => ?_) ?_
   · go_simp
     have S_5 := Lib.hid (S_4.out.drew.allocE [.int .i64 0, .int .i64 0, .bool false, .slice none 0 0, .slice none 0 0, .bool false, .slice none 0 0, .slice none 0 0, .bool false, .slice none 0 0, .slice none 0 0] 34)
     clear S_4
     refine hK.out _ _ (mkS_5 _ _ _ _ _ S_5.out) (fun hHeld28 => ?_)
     clear hK K
     try simp only [pm, s0, sS]
     refine wpAnyH_ready (rs := [8]) (by kernel_rfl) (by simp) ?_
     refine AllReadyH.cons (o := ⟨some 28,.call { callee := .value (.func 56),args := #[.tmp 25,.tmp 27],argTypes := #[32,32] },32,"l06_links.go:152",#[⟨5,.data⟩,⟨7,.data⟩],none⟩) rfl (fun K hK => ?_) AllReadyH.nil
     go_simp
     go_at_call_of 56 (Value.agg #[Value.bool P.s,(Value.slice Ap np cp),(Value.slice Bp mp dp)])
     go_at_call_of 56 (Value.agg #[Value.bool Q.s,q0,q1])
     refine (times_f P Q (.slice Ap np cp) (.slice Bp mp dp) q0 q1 _ GP.out GQ.out (S_5.out.lkA HL.out).p (S_5.out.lkA HL.out).q).mono ?_
     rintro e wx1 ⟨vx1, ux1, rfl, ho, hb⟩
     obtain ⟨Ax1, nx1, cx1, rfl⟩ := (ho.at_ 0 rfl).shape3
     obtain ⟨Bx1, mx1, dx1, rfl⟩ := (ho.at_ 1 rfl).shape3
     rw [HM1.out] at ho ⊢
     have S_6 := Lib.hid (S_5.out.rows ho hb)
     clear S_5 ho hb
     refine hK.out _ _ (mkS_5 _ _ _ _ _ S_6.out) (fun hHeld8 => ?_)
     clear hK K
     try simp only [pm, s0, sS]
     refine wpAnyH_ready (rs := [12]) (by kernel_rfl) (by simp) ?_
     refine AllReadyH.cons (o := ⟨some 32,.call { callee := .value (.func 56),args := #[.tmp 29,.tmp 31],argTypes := #[32,32] },32,"l06_links.go:152",#[⟨9,.data⟩,⟨11,.data⟩,⟨8,.chain⟩],none⟩) rfl (fun K hK => ?_) AllReadyH.nil
     go_simp
     go_at_call_of 56 (Value.agg #[Value.bool V.s,(Value.slice Av nv cv),(Value.slice Bv mv dv)])
     go_at_call_of 56 (Value.agg #[Value.bool U.s,u0,u1])
     refine (times_f V U (.slice Av nv cv) (.slice Bv mv dv) u0 u1 _ GV.out GU.out (S_6.out.lkA HM.out).p (S_6.out.lkA HM.out).q).mono ?_
     rintro e wx2 ⟨vx2, ux2, rfl, ho, hb⟩
     obtain ⟨Ax2, nx2, cx2, rfl⟩ := (ho.at_ 0 rfl).shape3
     obtain ⟨Bx2, mx2, dx2, rfl⟩ := (ho.at_ 1 rfl).shape3
     rw [HM2.out] at ho ⊢
     have S_7 := Lib.hid (S_6.out.rows ho hb)
     clear S_6 ho hb
     refine hK.out _ _ (mkS_5 _ _ _ _ _ S_7.out) (fun hHeld12 => ?_)
     clear hK K
     try simp only [pm, s0, sS]
     refine wpAnyH_ready (rs := [13]) (by kernel_rfl) (by simp) ?_
     refine AllReadyH.cons (o := ⟨some 33,.call { callee := .value (.func 55),args := #[.tmp 28,.tmp 32],argTypes := #[32,32] },32,"l06_links.go:152",#[⟨8,.data⟩,⟨12,.data⟩,⟨12,.chain⟩],none⟩) rfl (fun K hK => ?_) AllReadyH.nil
     go_simp
     go_at_call_of 55 (Value.agg #[Value.bool M1.s,(Value.slice Ax1 nx1 cx1),(Value.slice Bx1 mx1 dx1)])
     refine (plus_f M1 M2 (.slice Ax1 nx1 cx1) (.slice Bx1 mx1 dx1) (.slice Ax2 nx2 cx2) (.slice Bx2 mx2 dx2) _ (HM1.out ▸ good_mul _ _) (HM2.out ▸ good_mul _ _) (S_7.out.fr 1 0 rfl rfl rfl) (S_7.out.fr 0 0 rfl rfl rfl)).mono ?_
     rintro e wx3 ⟨vx3, ux3, rfl, ho, hb⟩
     obtain ⟨Ax3, nx3, cx3, rfl⟩ := (ho.at_ 0 rfl).shape3
     obtain ⟨Bx3, mx3, dx3, rfl⟩ := (ho.at_ 1 rfl).shape3
     rw [HN1.out] at ho ⊢
     have S_8 := Lib.hid (S_7.out.rows ho hb)
     clear S_7 ho hb
     refine hK.out _ _ (mkS_5 _ _ _ _ _ S_8.out) (fun hHeld13 => ?_)
     clear hK K
     try simp only [pm, s0, sS]
     refine wpAnyH_ready (rs := [15]) (by kernel_rfl) (by simp) ?_
     refine AllReadyH.cons (o := ⟨some 35,.call { callee := .value (.func 80),args := #[.tmp 33,.tmp 34],argTypes := #[32,32] },32,"l06_links.go:152",#[⟨13,.data⟩,⟨14,.data⟩,⟨13,.chain⟩],none⟩) rfl (fun K hK => ?_) AllReadyH.nil
     go_simp
     go_at_call_of 80 (Value.agg #[Value.bool N1.s,(Value.slice Ax3 nx3 cx3),(Value.slice Bx3 mx3 dx3)])
     refine (dividedBy_f N1 S (.slice Ax3 nx3 cx3) (.slice Bx3 mx3 dx3) (.slice A0 n0 c0) (.slice B0 m0 d0) _ (HN1.out ▸ good_add _ _) (HS.out ▸ good_add P V) (S_8.out.fr 0 0 rfl rfl rfl) (S_8.out.fr 3 0 rfl rfl rfl)).mono ?_
     rintro e wx4 ⟨vx4, ux4, rfl, ho, hb⟩
     obtain ⟨Ax4, nx4, cx4, rfl⟩ := (ho.at_ 0 rfl).shape3
     obtain ⟨Bx4, mx4, dx4, rfl⟩ := (ho.at_ 1 rfl).shape3
     rw [HX.out] at ho ⊢
     have S_9 := Lib.hid (S_8.out.rows ho hb)
     clear S_8 ho hb
     refine hK.out _ _ (mkS_5 _ _ _ _ _ S_9.out) (fun hHeld15 => ?_)
     clear hK K
     try simp only [pm, s0, sS]
     refine wpAnyH_ready (rs := [19]) (by kernel_rfl) (by simp) ?_
     refine AllReadyH.cons (o := ⟨some 39,.call { callee := .value (.func 56),args := #[.tmp 36,.tmp 38],argTypes := #[32,32] },32,"l06_links.go:153",#[⟨16,.data⟩,⟨18,.data⟩,⟨15,.chain⟩],none⟩) rfl (fun K hK => ?_) AllReadyH.nil
     go_simp
     go_at_call_of 56 (Value.agg #[Value.bool P.s,(Value.slice Ap np cp),(Value.slice Bp mp dp)])
     go_at_call_of 56 (Value.agg #[Value.bool R.s,r0,r1])
     refine (times_f P R (.slice Ap np cp) (.slice Bp mp dp) r0 r1 _ GP.out GR.out (S_9.out.lkA HL.out).p (S_9.out.lkA HL.out).r).mono ?_
     rintro e wy1 ⟨vy1, uy1, rfl, ho, hb⟩
     obtain ⟨Ay1, ny1, cy1, rfl⟩ := (ho.at_ 0 rfl).shape3
     obtain ⟨By1, my1, dy1, rfl⟩ := (ho.at_ 1 rfl).shape3
     rw [HM3.out] at ho ⊢
     have S_10 := Lib.hid (S_9.out.rows ho hb)
     clear S_9 ho hb
     refine hK.out _ _ (mkS_5 _ _ _ _ _ S_10.out) (fun hHeld19 => ?_)
     clear hK K
     try simp only [pm, s0, sS]
     refine wpAnyH_ready (rs := [23]) (by kernel_rfl) (by simp) ?_
     refine AllReadyH.cons (o := ⟨some 43,.call { callee := .value (.func 56),args := #[.tmp 40,.tmp 42],argTypes := #[32,32] },32,"l06_links.go:153",#[⟨20,.data⟩,⟨22,.data⟩,⟨19,.chain⟩],none⟩) rfl (fun K hK => ?_) AllReadyH.nil
     go_simp
     go_at_call_of 56 (Value.agg #[Value.bool V.s,(Value.slice Av nv cv),(Value.slice Bv mv dv)])
     go_at_call_of 56 (Value.agg #[Value.bool T.s,t0,t1])
     refine (times_f V T (.slice Av nv cv) (.slice Bv mv dv) t0 t1 _ GV.out GT.out (S_10.out.lkA HM.out).p (S_10.out.lkA HM.out).r).mono ?_
     rintro e wy2 ⟨vy2, uy2, rfl, ho, hb⟩
     obtain ⟨Ay2, ny2, cy2, rfl⟩ := (ho.at_ 0 rfl).shape3
     obtain ⟨By2, my2, dy2, rfl⟩ := (ho.at_ 1 rfl).shape3
     rw [HM4.out] at ho ⊢
     have S_11 := Lib.hid (S_10.out.rows ho hb)
     clear S_10 ho hb
     refine hK.out _ _ (mkS_5 _ _ _ _ _ S_11.out) (fun hHeld23 => ?_)
     clear hK K
     try simp only [pm, s0, sS]
     refine wpAnyH_ready (rs := [24]) (by kernel_rfl) (by simp) ?_
     refine AllReadyH.cons (o := ⟨some 44,.call { callee := .value (.func 55),args := #[.tmp 39,.tmp 43],argTypes := #[32,32] },32,"l06_links.go:153",#[⟨19,.data⟩,⟨23,.data⟩,⟨23,.chain⟩],none⟩) rfl (fun K hK => ?_) AllReadyH.nil
     go_simp
     go_at_call_of 55 (Value.agg #[Value.bool M3.s,(Value.slice Ay1 ny1 cy1),(Value.slice By1 my1 dy1)])
     refine (plus_f M3 M4 (.slice Ay1 ny1 cy1) (.slice By1 my1 dy1) (.slice Ay2 ny2 cy2) (.slice By2 my2 dy2) _ (HM3.out ▸ good_mul _ _) (HM4.out ▸ good_mul _ _) (S_11.out.fr 1 0 rfl rfl rfl) (S_11.out.fr 0 0 rfl rfl rfl)).mono ?_
     rintro e wy3 ⟨vy3, uy3, rfl, ho, hb⟩
     obtain ⟨Ay3, ny3, cy3, rfl⟩ := (ho.at_ 0 rfl).shape3
     obtain ⟨By3, my3, dy3, rfl⟩ := (ho.at_ 1 rfl).shape3
     rw [HN2.out] at ho ⊢
     have S_12 := Lib.hid (S_11.out.rows ho hb)
     clear S_11 ho hb
     refine hK.out _ _ (mkS_5 _ _ _ _ _ S_12.out) (fun hHeld24 => ?_)
     clear hK K
     try simp only [pm, s0, sS]
     refine wpAnyH_ready (rs := [26]) (by kernel_rfl) (by simp) ?_
     refine AllReadyH.cons (o := ⟨some 46,.call { callee := .value (.func 80),args := #[.tmp 44,.tmp 45],argTypes := #[32,32] },32,"l06_links.go:153",#[⟨24,.data⟩,⟨25,.data⟩,⟨24,.chain⟩],none⟩) rfl (fun K hK => ?_) AllReadyH.nil
     go_simp
     go_at_call_of 80 (Value.agg #[Value.bool N2.s,(Value.slice Ay3 ny3 cy3),(Value.slice By3 my3 dy3)])
     refine (dividedBy_f N2 S (.slice Ay3 ny3 cy3) (.slice By3 my3 dy3) (.slice A0 n0 c0) (.slice B0 m0 d0) _ (HN2.out ▸ good_add _ _) (HS.out ▸ good_add P V) (S_12.out.fr 0 0 rfl rfl rfl) (S_12.out.fr 7 0 rfl rfl rfl)).mono ?_
     rintro e wy4 ⟨vy4, uy4, rfl, ho, hb⟩
     obtain ⟨Ay4, ny4, cy4, rfl⟩ := (ho.at_ 0 rfl).shape3
     obtain ⟨By4, my4, dy4, rfl⟩ := (ho.at_ 1 rfl).shape3
     rw [HY.out] at ho ⊢
     have S_13 := Lib.hid (S_12.out.rows ho hb)
     clear S_12 ho hb
     refine hK.out _ _ (mkS_5 _ _ _ _ _ S_13.out) (fun hHeld26 => ?_)
     clear hK K
     try simp only [pm, s0, sS]
     refine tkH 27 ?_ ⟨some 47,.build 34 #[(0,.tmp 21),(1,.tmp 23),(2,.tmp 24),(3,.tmp 35),(4,.tmp 46)],34,"l06_links.go:148",#[⟨1,.data⟩,⟨3,.data⟩,⟨4,.data⟩,⟨15,.data⟩,⟨26,.data⟩],none⟩ ?_ ?_
     rotate_left
     · intro w9 hSw; (try dsimp only at hSw); go_simp; try with_reducible rfl
     try simp only [pm, s0, sS]
     refine wpAnyH_ready (rs := [29]) (by kernel_rfl) (by simp) ?_
     refine AllReadyH.cons (o := ⟨none,.store 34 (.tmp 10) (.tmp 47),0,"l06_links.go:148",#[⟨28,.data⟩,⟨27,.data⟩,⟨26,.chain⟩,⟨0,.phase⟩,⟨1,.phase⟩,⟨2,.phase⟩,⟨3,.phase⟩,⟨4,.phase⟩,⟨5,.phase⟩,⟨6,.phase⟩,⟨7,.phase⟩,⟨8,.phase⟩,⟨9,.phase⟩,⟨10,.phase⟩,⟨11,.phase⟩,⟨12,.phase⟩,⟨13,.phase⟩,⟨14,.phase⟩,⟨15,.phase⟩,⟨16,.phase⟩,⟨17,.phase⟩,⟨18,.phase⟩,⟨19,.phase⟩,⟨20,.phase⟩,⟨21,.phase⟩,⟨22,.phase⟩,⟨23,.phase⟩,⟨24,.phase⟩,⟨25,.phase⟩,⟨26,.phase⟩,⟨27,.phase⟩,⟨28,.phase⟩],none⟩) rfl (fun K hK => ?_) AllReadyH.nil
     rw [if_pos (by rfl)]
     refine wp_store_mid _ _ _ rfl _ _ (List.toArray [.int .i64 A, .int .i64 B, .bool S.s, (.slice A0 n0 c0), (.slice B0 m0 d0), .bool X.s, (.slice Ax4 nx4 cx4), (.slice Bx4 mx4 dx4), .bool Y.s, (.slice Ay4 ny4 cy4), (.slice By4 my4 dy4)]) rfl rfl (S_13.out.there_ 7 rfl rfl) (size_link) (all_oneCell_toArray (cs := [.int .i64 A, .int .i64 B, .bool S.s, (.slice A0 n0 c0), (.slice B0 m0 d0), .bool X.s, (.slice Ax4 nx4 cx4), (.slice Bx4 mx4 dx4), .bool Y.s, (.slice Ay4 ny4 cy4), (.slice By4 my4 dy4)]) (List.all_eq_true.mp rfl)) ?_
     simp only [Act.put]
     have S_14 := Lib.hid (S_13.out.setKit 7 [.int .i64 A, .int .i64 B, .bool S.s, (.slice A0 n0 c0), (.slice B0 m0 d0), .bool X.s, (.slice Ax4 nx4 cx4), (.slice Bx4 mx4 dx4), .bool Y.s, (.slice Ay4 ny4 cy4), (.slice By4 my4 dy4)] rfl rfl)
     clear S_13
     refine hK.out _ _ (mkS_5 _ _ _ _ _ S_14.out) (fun hHeld29 => ?_)
     clear hK K
     try simp only [pm, s0, sS]
     refine wpAnyH_done (by kernel_rfl) ?_ _
     refine NoPanic.normal ?_
     go_wp2_with fail
     go_meet
     refine ⟨_, Ax4, nx4, cx4, Bx4, mx4, dx4, Ay4, ny4, cy4, By4, my4, dy4, rfl, ?_⟩
     exact ((((((S_14.out.drop 7).drop 6).drop 5).drop 3).drop 2).drop 1)
   exact AllReadyH.nil
 obtain ⟨b_mg, Ax4, nx4, cx4, Bx4, mx4, dx4, Ay4, ny4, cy4, By4, my4, dy4, rfl, hst⟩ := hcut
 have S_55 := Lib.hid hst
 clear hst S_4
 have hne_rb_mg := S_55.out.ne 0 7 rfl rfl (by decide)
 have hne_mg_rb := S_55.out.ne 7 0 rfl rfl (by decide)
 have hne_ra_mg := S_55.out.ne 1 7 rfl rfl (by decide)
 have hne_mg_ra := S_55.out.ne 7 1 rfl rfl (by decide)
 have hne_l_mg := S_55.out.ne 2 7 rfl rfl (by decide)
 have hne_mg_l := S_55.out.ne 7 2 rfl rfl (by decide)
 have hne_k_mg := S_55.out.ne 3 7 rfl rfl (by decide)
 have hne_mg_k := S_55.out.ne 7 3 rfl rfl (by decide)
 have hne_v_mg := S_55.out.ne 4 7 rfl rfl (by decide)
 have hne_mg_v := S_55.out.ne 7 4 rfl rfl (by decide)
 have hne_w_mg := S_55.out.ne 5 7 rfl rfl (by decide)
 have hne_mg_w := S_55.out.ne 7 5 rfl rfl (by decide)
 have hne_tot_mg := S_55.out.ne 6 7 rfl rfl (by decide)
 have hne_mg_tot := S_55.out.ne 7 6 rfl rfl (by decide)
 obtain ⟨wd, hwd⟩ : ∃ u, wc = u := ⟨_, rfl⟩
 rw [hwd] at S_55 ⊢
 clear hwd
 have hk_k_0_55 := S_55.out.cell 3 0 rfl rfl
 have hk_k_1_55 := S_55.out.cell 3 1 rfl rfl
 have hk_k_2_55 := S_55.out.cell 3 2 rfl rfl
 have hk_k_3_55 := S_55.out.cell 3 3 rfl rfl
 have hk_k_4_55 := S_55.out.cell 3 4 rfl rfl
 have hk_k_5_55 := S_55.out.cell 3 5 rfl rfl
 have hk_k_6_55 := S_55.out.cell 3 6 rfl rfl
 have hk_k_7_55 := S_55.out.cell 3 7 rfl rfl
 have hk_k_8_55 := S_55.out.cell 3 8 rfl rfl
 have hk_k_9_55 := S_55.out.cell 3 9 rfl rfl
 have hk_k_10_55 := S_55.out.cell 3 10 rfl rfl
 have hk_l_0_55 := S_55.out.cell 2 0 rfl rfl
 have hk_l_1_55 := S_55.out.cell 2 1 rfl rfl
 have hk_l_2_55 := S_55.out.cell 2 2 rfl rfl
 have hk_l_3_55 := S_55.out.cell 2 3 rfl rfl
 have hk_l_4_55 := S_55.out.cell 2 4 rfl rfl
 have hk_l_5_55 := S_55.out.cell 2 5 rfl rfl
 have hk_l_6_55 := S_55.out.cell 2 6 rfl rfl
 have hk_l_7_55 := S_55.out.cell 2 7 rfl rfl
 have hk_l_8_55 := S_55.out.cell 2 8 rfl rfl
 have hk_l_9_55 := S_55.out.cell 2 9 rfl rfl
 have hk_l_10_55 := S_55.out.cell 2 10 rfl rfl
 go_upto_region 4 with fail
 clear hk_k_0_55 hk_k_1_55 hk_k_2_55 hk_k_3_55 hk_k_4_55 hk_k_5_55 hk_k_6_55 hk_k_7_55 hk_k_8_55 hk_k_9_55 hk_k_10_55 hk_l_0_55 hk_l_1_55 hk_l_2_55 hk_l_3_55 hk_l_4_55 hk_l_5_55 hk_l_6_55 hk_l_7_55 hk_l_8_55 hk_l_9_55 hk_l_10_55
 go_cut [11] (fun ptr wx => ∃ blk Az3 nz3 cz3 Bz3 mz3 dz3,ptr = .pointer (some ⟨blk,0,none⟩) ∧ St w wx [(w.heap.size + 1 + 1 + 1,[.bool false,.slice none 0 0,.slice none 0 0]),(w.heap.size + 1 + 1,[.int .i64 0,.int .i64 0,.bool false,.slice none 0 0,.slice none 0 0,.bool false,.slice none 0 0,.slice none 0 0,.bool false,.slice none 0 0,.slice none 0 0]),(w.heap.size + 1,[.int .i64 C,.int .i64 E,.bool V.s,(.slice Av nv cv),(.slice Bv mv dv),.bool U.s,u0,u1,.bool T.s,t0,t1]),(w.heap.size,[.int .i64 A,.int .i64 B,.bool P.s,(.slice Ap np cp),(.slice Bp mp dp),.bool Q.s,q0,q1,.bool R.s,r0,r1]),(b_v,[.bool P.s,(.slice Ap np cp),(.slice Bp mp dp)]),(b_w,[.bool V.s,(.slice Av nv cv),(.slice Bv mv dv)]),(w1.heap.size,[.bool S.s,(.slice A0 n0 c0),(.slice B0 m0 d0)]),(b_mg,[.int .i64 A,.int .i64 B,.bool S.s,(.slice A0 n0 c0),(.slice B0 m0 d0),.bool X.s,(.slice Ax4 nx4 cx4),(.slice Bx4 mx4 dx4),.bool Y.s,(.slice Ay4 ny4 cy4),(.slice By4 my4 dy4)]),(blk,[.bool H.s,(.slice Az3 nz3 cz3),(.slice Bz3 mz3 dz3)])] [[((.slice Az3 nz3 cz3),ints H.xs),((.slice Bz3 mz3 dz3),ints H.ys)],[((.slice Ay4 ny4 cy4),ints Y.xs),((.slice By4 my4 dy4),ints Y.ys)],[((.slice Ax4 nx4 cx4),ints X.xs),((.slice Bx4 mx4 dx4),ints X.ys)],[((.slice A0 n0 c0),ints S.xs),((.slice B0 m0 d0),ints S.ys)]])
 case first =>
   have mkS_56 : ∀ (w' : World) (x0_ x1_ x2_ x3_ x4_ x5_ : List Value) (bs' : List (Nat × List Value)) (cs' : List Chunk),St w w' ((w.heap.size + 1 + 1 + 1,x0_) :: (w.heap.size + 1 + 1,x1_) :: (w.heap.size + 1,[.int .i64 C,.int .i64 E,.bool V.s,(.slice Av nv cv),(.slice Bv mv dv),.bool U.s,u0,u1,.bool T.s,t0,t1]) :: (w.heap.size,[.int .i64 A,.int .i64 B,.bool P.s,(.slice Ap np cp),(.slice Bp mp dp),.bool Q.s,q0,q1,.bool R.s,r0,r1]) :: (b_v,x2_) :: (b_w,x3_) :: (w1.heap.size,x4_) :: (b_mg,x5_) :: bs') cs' → w'.cell? ⟨w.heap.size + 1,0,none⟩ = some (.int .i64 C) ∧ w'.cell? ⟨w.heap.size + 1,1,none⟩ = some (.int .i64 E) ∧ w'.cell? ⟨w.heap.size + 1,2,none⟩ = some (.bool V.s) ∧ w'.cell? ⟨w.heap.size + 1,3,none⟩ = some ((.slice Av nv cv)) ∧ w'.cell? ⟨w.heap.size + 1,4,none⟩ = some ((.slice Bv mv dv)) ∧ w'.cell? ⟨w.heap.size + 1,5,none⟩ = some (.bool U.s) ∧ w'.cell? ⟨w.heap.size + 1,6,none⟩ = some (u0) ∧ w'.cell? ⟨w.heap.size + 1,7,none⟩ = some (u1) ∧ w'.cell? ⟨w.heap.size + 1,8,none⟩ = some (.bool T.s) ∧ w'.cell? ⟨w.heap.size + 1,9,none⟩ = some (t0) ∧ w'.cell? ⟨w.heap.size + 1,10,none⟩ = some (t1) ∧ w'.cell? ⟨w.heap.size,0,none⟩ = some (.int .i64 A) ∧ w'.cell? ⟨w.heap.size,1,none⟩ = some (.int .i64 B) ∧ w'.cell? ⟨w.heap.size,2,none⟩ = some (.bool P.s) ∧ w'.cell? ⟨w.heap.size,3,none⟩ = some ((.slice Ap np cp)) ∧ w'.cell? ⟨w.heap.size,4,none⟩ = some ((.slice Bp mp dp)) ∧ w'.cell? ⟨w.heap.size,5,none⟩ = some (.bool Q.s) ∧ w'.cell? ⟨w.heap.size,6,none⟩ = some (q0) ∧ w'.cell? ⟨w.heap.size,7,none⟩ = some (q1) ∧ w'.cell? ⟨w.heap.size,8,none⟩ = some (.bool R.s) ∧ w'.cell? ⟨w.heap.size,9,none⟩ = some (r0) ∧ w'.cell? ⟨w.heap.size,10,none⟩ = some (r1) := fun w' x0_ x1_ x2_ x3_ x4_ x5_ bs' cs' h => ⟨h.cell 2 0 rfl rfl,h.cell 2 1 rfl rfl,h.cell 2 2 rfl rfl,h.cell 2 3 rfl rfl,h.cell 2 4 rfl rfl,h.cell 2 5 rfl rfl,h.cell 2 6 rfl rfl,h.cell 2 7 rfl rfl,h.cell 2 8 rfl rfl,h.cell 2 9 rfl rfl,h.cell 2 10 rfl rfl,h.cell 3 0 rfl rfl,h.cell 3 1 rfl rfl,h.cell 3 2 rfl rfl,h.cell 3 3 rfl rfl,h.cell 3 4 rfl rfl,h.cell 3 5 rfl rfl,h.cell 3 6 rfl rfl,h.cell 3 7 rfl rfl,h.cell 3 8 rfl rfl,h.cell 3 9 rfl rfl,h.cell 3 10 rfl rfl⟩
   refine wp_region_noPanic ?_
   refine wp_region_held_drew (S := (fun w' => w'.cell? ⟨w.heap.size + 1, 0, none⟩ = some (.int .i64 C) ∧ w'.cell? ⟨w.heap.size + 1, 1, none⟩ = some (.int .i64 E) ∧ w'.cell? ⟨w.heap.size + 1, 2, none⟩ = some (.bool V.s) ∧ w'.cell? ⟨w.heap.size + 1, 3, none⟩ = some ((.slice Av nv cv)) ∧ w'.cell? ⟨w.heap.size + 1, 4, none⟩ = some ((.slice Bv mv dv)) ∧ w'.cell? ⟨w.heap.size + 1, 5, none⟩ = some (.bool U.s) ∧ w'.cell? ⟨w.heap.size + 1, 6, none⟩ = some (u0) ∧ w'.cell? ⟨w.heap.size + 1, 7, none⟩ = some (u1) ∧ w'.cell? ⟨w.heap.size + 1, 8, none⟩ = some (.bool T.s) ∧ w'.cell? ⟨w.heap.size + 1, 9, none⟩ = some (t0) ∧ w'.cell? ⟨w.heap.size + 1, 10, none⟩ = some (t1) ∧ w'.cell? ⟨w.heap.size, 0, none⟩ = some (.int .i64 A) ∧ w'.cell? ⟨w.heap.size, 1, none⟩ = some (.int .i64 B) ∧ w'.cell? ⟨w.heap.size, 2, none⟩ = some (.bool P.s) ∧ w'.cell? ⟨w.heap.size, 3, none⟩ = some ((.slice Ap np cp)) ∧ w'.cell? ⟨w.heap.size, 4, none⟩ = some ((.slice Bp mp dp)) ∧ w'.cell? ⟨w.heap.size, 5, none⟩ = some (.bool Q.s) ∧ w'.cell? ⟨w.heap.size, 6, none⟩ = some (q0) ∧ w'.cell? ⟨w.heap.size, 7, none⟩ = some (q1) ∧ w'.cell? ⟨w.heap.size, 8, none⟩ = some (.bool R.s) ∧ w'.cell? ⟨w.heap.size, 9, none⟩ = some (r0) ∧ w'.cell? ⟨w.heap.size, 10, none⟩ = some (r1))) (by kernel_rfl) ?_ (fun hHeld => ?_)
   · exact mkS_56 _ _ _ _ _ _ _ _ _ S_55.out.drew
   refine tkH 0 ?_ ⟨some 48,.fieldAddr 34 (.tmp 2) 3,0,"l06_links.go:155",#[],none⟩ ?_ ?_
   rotate_left
   · intro w9 hSw; (try dsimp only at hSw); go_simp; try with_reducible rfl
   try simp only [pm, s0, sS]
   refine tkH 1 ?_ ⟨some 49,.load 32 (.tmp 48),32,"l06_links.go:155",#[⟨0,.data⟩],none⟩ ?_ ?_
   rotate_left
   · intro w9 hSw; (try dsimp only at hSw); go_simp; try with_reducible rfl
   try simp only [pm, s0, sS]
   refine tkH 2 ?_ ⟨some 50,.fieldAddr 34 (.tmp 3) 3,0,"l06_links.go:155",#[],none⟩ ?_ ?_
   rotate_left
   · intro w9 hSw; (try dsimp only at hSw); go_simp; try with_reducible rfl
   try simp only [pm, s0, sS]
   refine tkH 3 ?_ ⟨some 51,.load 32 (.tmp 50),32,"l06_links.go:155",#[⟨2,.data⟩],none⟩ ?_ ?_
   rotate_left
   · intro w9 hSw; (try dsimp only at hSw); go_simp; try with_reducible rfl
   try simp only [pm, s0, sS]
   refine tkH 5 ?_ ⟨some 53,.fieldAddr 34 (.tmp 2) 4,0,"l06_links.go:155",#[],none⟩ ?_ ?_
   rotate_left
   · intro w9 hSw; (try dsimp only at hSw); go_simp; try with_reducible rfl
   try simp only [pm, s0, sS]
   refine tkH 6 ?_ ⟨some 54,.load 32 (.tmp 53),32,"l06_links.go:155",#[⟨5,.data⟩],none⟩ ?_ ?_
   rotate_left
   · intro w9 hSw; (try dsimp only at hSw); go_simp; try with_reducible rfl
   try simp only [pm, s0, sS]
   refine tkH 7 ?_ ⟨some 55,.fieldAddr 34 (.tmp 3) 4,0,"l06_links.go:155",#[],none⟩ ?_ ?_
   rotate_left
   · intro w9 hSw; (try dsimp only at hSw); go_simp; try with_reducible rfl
   try simp only [pm, s0, sS]
   refine tkH 8 ?_ ⟨some 56,.load 32 (.tmp 55),32,"l06_links.go:155",#[⟨7,.data⟩],none⟩ ?_ ?_
   rotate_left
   · intro w9 hSw; (try dsimp only at hSw); go_simp; try with_reducible rfl
   try simp only [pm, s0, sS]
   refine wpAnyH_ready (rs := [4, 11]) (by kernel_rfl) (by simp) ?_
   refine AllReadyH.cons (o := ⟨some 52,.call { callee := .value (.func 82),args := #[.tmp 49,.tmp 51],argTypes := #[32,32] },32,"l06_links.go:155",#[⟨1,.data⟩,⟨3,.data⟩],none⟩) rfl (fun K hK => ?_) ?_
   · go_simp
     go_at_call_of 82 (Value.agg #[Value.bool Q.s,q0,q1])
     refine (minus_f Q U q0 q1 u0 u1 _ GQ.out GU.out (S_55.out.drew.lkA HL.out).q (S_55.out.drew.lkA HM.out).q).mono ?_
     rintro e wz1 ⟨vz1, uz1, rfl, ho, hb⟩
     obtain ⟨Az1, nz1, cz1, rfl⟩ := (ho.at_ 0 rfl).shape3
     obtain ⟨Bz1, mz1, dz1, rfl⟩ := (ho.at_ 1 rfl).shape3
     rw [HD1.out] at ho ⊢
     have S_56 := Lib.hid (S_55.out.drew.rows ho hb)
     clear S_55 ho hb
     refine hK.out _ _ (mkS_56 _ _ _ _ _ _ _ _ _ S_56.out) (fun hHeld4 => ?_)
     clear hK K
     try simp only [pm, s0, sS]
     refine wpAnyH_ready (rs := [9, 11]) (by kernel_rfl) (by simp) ?_
     refine AllReadyH.cons (o := ⟨some 57,.call { callee := .value (.func 82),args := #[.tmp 54,.tmp 56],argTypes := #[32,32] },32,"l06_links.go:155",#[⟨6,.data⟩,⟨8,.data⟩,⟨4,.chain⟩],none⟩) rfl (fun K hK => ?_) ?_
     · go_simp
       go_at_call_of 82 (Value.agg #[Value.bool R.s,r0,r1])
       refine (minus_f R T r0 r1 t0 t1 _ GR.out GT.out (S_56.out.lkA HL.out).r (S_56.out.lkA HM.out).r).mono ?_
       rintro e wz2 ⟨vz2, uz2, rfl, ho, hb⟩
       obtain ⟨Az2, nz2, cz2, rfl⟩ := (ho.at_ 0 rfl).shape3
       obtain ⟨Bz2, mz2, dz2, rfl⟩ := (ho.at_ 1 rfl).shape3
       rw [HD2.out] at ho ⊢
       have S_57 := Lib.hid (S_56.out.rows ho hb)
       clear S_56 ho hb
       refine hK.out _ _ (mkS_56 _ _ _ _ _ _ _ _ _ S_57.out) (fun hHeld9 => ?_)
       clear hK K
       try simp only [pm, s0, sS]
       refine wpAnyH_ready (rs := [10, 11]) (by kernel_rfl) (by simp) ?_
       refine AllReadyH.cons (o := ⟨some 58,.call { callee := .value (.func 81),args := #[.tmp 52,.tmp 57],argTypes := #[32,32] },32,"l06_links.go:155",#[⟨4,.data⟩,⟨9,.data⟩,⟨9,.chain⟩],none⟩) rfl (fun K hK => ?_) ?_
       · go_simp
         go_at_call 81
         refine (sumOfSquares_f D1 D2 (.slice Az1 nz1 cz1) (.slice Bz1 mz1 dz1) (.slice Az2 nz2 cz2) (.slice Bz2 mz2 dz2) _ (HD1.out ▸ good_sub _ _) (HD2.out ▸ good_sub _ _) (S_57.out.fr 1 0 rfl rfl rfl) (S_57.out.fr 0 0 rfl rfl rfl)).mono ?_
         rintro e wz3 ⟨vz3, uz3, rfl, ho, hb⟩
         obtain ⟨Az3, nz3, cz3, rfl⟩ := (ho.at_ 0 rfl).shape3
         obtain ⟨Bz3, mz3, dz3, rfl⟩ := (ho.at_ 1 rfl).shape3
         rw [HH.out] at ho ⊢
         have S_58 := Lib.hid (S_57.out.rows ho hb)
         clear S_57 ho hb
         refine hK.out _ _ (mkS_56 _ _ _ _ _ _ _ _ _ S_58.out) (fun hHeld10 => ?_)
         clear hK K
         try simp only [pm, s0, sS]
         refine wpAnyH_ready (rs := [11]) (by kernel_rfl) (by simp) ?_
         refine AllReadyH.cons (o := ⟨some 11,.alloc 32,0,"l06_links.go:155",#[],none⟩) rfl (fun K hK => ?_) AllReadyH.nil
         go_simp
         have S_59 := Lib.hid (S_58.out.allocE [.bool false, .slice none 0 0, .slice none 0 0] 32)
         clear S_58
         refine hK.out _ _ (mkS_56 _ _ _ _ _ _ _ _ _ S_59.out) (fun hHeld11 => ?_)
         clear hK K
         try simp only [pm, s0, sS]
         refine wpAnyH_ready (rs := [12]) (by kernel_rfl) (by simp) ?_
         refine AllReadyH.cons (o := ⟨none,.store 32 (.tmp 11) (.tmp 58),0,"l06_links.go:155",#[⟨11,.data⟩,⟨10,.data⟩,⟨10,.chain⟩,⟨0,.phase⟩,⟨1,.phase⟩,⟨2,.phase⟩,⟨3,.phase⟩,⟨4,.phase⟩,⟨5,.phase⟩,⟨6,.phase⟩,⟨7,.phase⟩,⟨8,.phase⟩,⟨9,.phase⟩,⟨10,.phase⟩,⟨11,.phase⟩],none⟩) rfl (fun K hK => ?_) AllReadyH.nil
         rw [if_pos (by rfl)]
         refine wp_store_mid _ _ _ rfl _ _ (List.toArray [.bool H.s, (.slice Az3 nz3 cz3), (.slice Bz3 mz3 dz3)]) rfl rfl (S_59.out.there_ 8 rfl rfl) (size_rat) (all_oneCell_toArray (cs := [.bool H.s, (.slice Az3 nz3 cz3), (.slice Bz3 mz3 dz3)]) (List.all_eq_true.mp rfl)) ?_
         simp only [Act.put]
         have S_60 := Lib.hid (S_59.out.setKit 8 [.bool H.s, (.slice Az3 nz3 cz3), (.slice Bz3 mz3 dz3)] rfl rfl)
         clear S_59
         refine hK.out _ _ (mkS_56 _ _ _ _ _ _ _ _ _ S_60.out) (fun hHeld12 => ?_)
         clear hK K
         try simp only [pm, s0, sS]
         refine wpAnyH_done (by kernel_rfl) ?_ _
         refine NoPanic.normal ?_
         go_wp2_with fail
         go_meet
         refine ⟨_, Az3, nz3, cz3, Bz3, mz3, dz3, rfl, ?_⟩
         exact ((S_60.out.drop 2).drop 1)
       refine AllReadyH.cons (o := ⟨some 11,.alloc 32,0,"l06_links.go:155",#[],none⟩) rfl (fun K hK => ?_) ?_
       · go_simp
         have S_58 := Lib.hid (S_57.out.allocE [.bool false, .slice none 0 0, .slice none 0 0] 32)
         clear S_57
         refine hK.out _ _ (mkS_56 _ _ _ _ _ _ _ _ _ S_58.out) (fun hHeld11 => ?_)
         clear hK K
         try simp only [pm, s0, sS]
         refine wpAnyH_ready (rs := [10]) (by kernel_rfl) (by simp) ?_
         refine AllReadyH.cons (o := ⟨some 58,.call { callee := .value (.func 81),args := #[.tmp 52,.tmp 57],argTypes := #[32,32] },32,"l06_links.go:155",#[⟨4,.data⟩,⟨9,.data⟩,⟨9,.chain⟩],none⟩) rfl (fun K hK => ?_) AllReadyH.nil
         go_simp
         go_at_call 81
         refine (sumOfSquares_f D1 D2 (.slice Az1 nz1 cz1) (.slice Bz1 mz1 dz1) (.slice Az2 nz2 cz2) (.slice Bz2 mz2 dz2) _ (HD1.out ▸ good_sub _ _) (HD2.out ▸ good_sub _ _) (S_58.out.fr 1 0 rfl rfl rfl) (S_58.out.fr 0 0 rfl rfl rfl)).mono ?_
         rintro e wz3 ⟨vz3, uz3, rfl, ho, hb⟩
         obtain ⟨Az3, nz3, cz3, rfl⟩ := (ho.at_ 0 rfl).shape3
         obtain ⟨Bz3, mz3, dz3, rfl⟩ := (ho.at_ 1 rfl).shape3
         rw [HH.out] at ho ⊢
         have S_59 := Lib.hid (S_58.out.rows ho hb)
         clear S_58 ho hb
         refine hK.out _ _ (mkS_56 _ _ _ _ _ _ _ _ _ S_59.out) (fun hHeld10 => ?_)
         clear hK K
         try simp only [pm, s0, sS]
         refine wpAnyH_ready (rs := [12]) (by kernel_rfl) (by simp) ?_
         refine AllReadyH.cons (o := ⟨none,.store 32 (.tmp 11) (.tmp 58),0,"l06_links.go:155",#[⟨11,.data⟩,⟨10,.data⟩,⟨10,.chain⟩,⟨0,.phase⟩,⟨1,.phase⟩,⟨2,.phase⟩,⟨3,.phase⟩,⟨4,.phase⟩,⟨5,.phase⟩,⟨6,.phase⟩,⟨7,.phase⟩,⟨8,.phase⟩,⟨9,.phase⟩,⟨10,.phase⟩,⟨11,.phase⟩],none⟩) rfl (fun K hK => ?_) AllReadyH.nil
         rw [if_pos (by rfl)]
         refine wp_store_mid _ _ _ rfl _ _ (List.toArray [.bool H.s, (.slice Az3 nz3 cz3), (.slice Bz3 mz3 dz3)]) rfl rfl (S_59.out.there_ 8 rfl rfl) (size_rat) (all_oneCell_toArray (cs := [.bool H.s, (.slice Az3 nz3 cz3), (.slice Bz3 mz3 dz3)]) (List.all_eq_true.mp rfl)) ?_
         simp only [Act.put]
         have S_60 := Lib.hid (S_59.out.setKit 8 [.bool H.s, (.slice Az3 nz3 cz3), (.slice Bz3 mz3 dz3)] rfl rfl)
         clear S_59
         refine hK.out _ _ (mkS_56 _ _ _ _ _ _ _ _ _ S_60.out) (fun hHeld12 => ?_)
         clear hK K
         try simp only [pm, s0, sS]
         refine wpAnyH_done (by kernel_rfl) ?_ _
         refine NoPanic.normal ?_
         go_wp2_with fail
         go_meet
         refine ⟨_, Az3, nz3, cz3, Bz3, mz3, dz3, rfl, ?_⟩
         exact ((S_60.out.drop 2).drop 1)
       exact AllReadyH.nil
     refine AllReadyH.cons (o := ⟨some 11,.alloc 32,0,"l06_links.go:155",#[],none⟩) rfl (fun K hK => ?_) ?_
     · go_simp
       have S_57 := Lib.hid (S_56.out.allocE [.bool false, .slice none 0 0, .slice none 0 0] 32)
       clear S_56
       refine hK.out _ _ (mkS_56 _ _ _ _ _ _ _ _ _ S_57.out) (fun hHeld11 => ?_)
       clear hK K
       try simp only [pm, s0, sS]
       refine wpAnyH_ready (rs := [9]) (by kernel_rfl) (by simp) ?_
       refine AllReadyH.cons (o := ⟨some 57,.call { callee := .value (.func 82),args := #[.tmp 54,.tmp 56],argTypes := #[32,32] },32,"l06_links.go:155",#[⟨6,.data⟩,⟨8,.data⟩,⟨4,.chain⟩],none⟩) rfl (fun K hK => ?_) AllReadyH.nil
       go_simp
       go_at_call_of 82 (Value.agg #[Value.bool R.s,r0,r1])
       refine (minus_f R T r0 r1 t0 t1 _ GR.out GT.out (S_57.out.lkA HL.out).r (S_57.out.lkA HM.out).r).mono ?_
       rintro e wz2 ⟨vz2, uz2, rfl, ho, hb⟩
       obtain ⟨Az2, nz2, cz2, rfl⟩ := (ho.at_ 0 rfl).shape3
       obtain ⟨Bz2, mz2, dz2, rfl⟩ := (ho.at_ 1 rfl).shape3
       rw [HD2.out] at ho ⊢
       have S_58 := Lib.hid (S_57.out.rows ho hb)
       clear S_57 ho hb
       refine hK.out _ _ (mkS_56 _ _ _ _ _ _ _ _ _ S_58.out) (fun hHeld9 => ?_)
       clear hK K
       try simp only [pm, s0, sS]
       refine wpAnyH_ready (rs := [10]) (by kernel_rfl) (by simp) ?_
       refine AllReadyH.cons (o := ⟨some 58,.call { callee := .value (.func 81),args := #[.tmp 52,.tmp 57],argTypes := #[32,32] },32,"l06_links.go:155",#[⟨4,.data⟩,⟨9,.data⟩,⟨9,.chain⟩],none⟩) rfl (fun K hK => ?_) AllReadyH.nil
       go_simp
       go_at_call 81
       refine (sumOfSquares_f D1 D2 (.slice Az1 nz1 cz1) (.slice Bz1 mz1 dz1) (.slice Az2 nz2 cz2) (.slice Bz2 mz2 dz2) _ (HD1.out ▸ good_sub _ _) (HD2.out ▸ good_sub _ _) (S_58.out.fr 1 0 rfl rfl rfl) (S_58.out.fr 0 0 rfl rfl rfl)).mono ?_
       rintro e wz3 ⟨vz3, uz3, rfl, ho, hb⟩
       obtain ⟨Az3, nz3, cz3, rfl⟩ := (ho.at_ 0 rfl).shape3
       obtain ⟨Bz3, mz3, dz3, rfl⟩ := (ho.at_ 1 rfl).shape3
       rw [HH.out] at ho ⊢
       have S_59 := Lib.hid (S_58.out.rows ho hb)
       clear S_58 ho hb
       refine hK.out _ _ (mkS_56 _ _ _ _ _ _ _ _ _ S_59.out) (fun hHeld10 => ?_)
       clear hK K
       try simp only [pm, s0, sS]
       refine wpAnyH_ready (rs := [12]) (by kernel_rfl) (by simp) ?_
       refine AllReadyH.cons (o := ⟨none,.store 32 (.tmp 11) (.tmp 58),0,"l06_links.go:155",#[⟨11,.data⟩,⟨10,.data⟩,⟨10,.chain⟩,⟨0,.phase⟩,⟨1,.phase⟩,⟨2,.phase⟩,⟨3,.phase⟩,⟨4,.phase⟩,⟨5,.phase⟩,⟨6,.phase⟩,⟨7,.phase⟩,⟨8,.phase⟩,⟨9,.phase⟩,⟨10,.phase⟩,⟨11,.phase⟩],none⟩) rfl (fun K hK => ?_) AllReadyH.nil
       rw [if_pos (by rfl)]
       refine wp_store_mid _ _ _ rfl _ _ (List.toArray [.bool H.s, (.slice Az3 nz3 cz3), (.slice Bz3 mz3 dz3)]) rfl rfl (S_59.out.there_ 8 rfl rfl) (size_rat) (all_oneCell_toArray (cs := [.bool H.s, (.slice Az3 nz3 cz3), (.slice Bz3 mz3 dz3)]) (List.all_eq_true.mp rfl)) ?_
       simp only [Act.put]
       have S_60 := Lib.hid (S_59.out.setKit 8 [.bool H.s, (.slice Az3 nz3 cz3), (.slice Bz3 mz3 dz3)] rfl rfl)
       clear S_59
       refine hK.out _ _ (mkS_56 _ _ _ _ _ _ _ _ _ S_60.out) (fun hHeld12 => ?_)
       clear hK K
       try simp only [pm, s0, sS]
       refine wpAnyH_done (by kernel_rfl) ?_ _
       refine NoPanic.normal ?_
       go_wp2_with fail
       go_meet
       refine ⟨_, Az3, nz3, cz3, Bz3, mz3, dz3, rfl, ?_⟩
       exact ((S_60.out.drop 2).drop 1)
     exact AllReadyH.nil
   refine AllReadyH.cons (o := ⟨some 11,.alloc 32,0,"l06_links.go:155",#[],none⟩) rfl (fun K hK => ?_) ?_
   · go_simp
     have S_56 := Lib.hid (S_55.out.drew.allocE [.bool false, .slice none 0 0, .slice none 0 0] 32)
     clear S_55
     refine hK.out _ _ (mkS_56 _ _ _ _ _ _ _ _ _ S_56.out) (fun hHeld11 => ?_)
     clear hK K
     try simp only [pm, s0, sS]
     refine wpAnyH_ready (rs := [4]) (by kernel_rfl) (by simp) ?_
     refine AllReadyH.cons (o := ⟨some 52,.call { callee := .value (.func 82),args := #[.tmp 49,.tmp 51],argTypes := #[32,32] },32,"l06_links.go:155",#[⟨1,.data⟩,⟨3,.data⟩],none⟩) rfl (fun K hK => ?_) AllReadyH.nil
     go_simp
     go_at_call_of 82 (Value.agg #[Value.bool Q.s,q0,q1])
     refine (minus_f Q U q0 q1 u0 u1 _ GQ.out GU.out (S_56.out.lkA HL.out).q (S_56.out.lkA HM.out).q).mono ?_
     rintro e wz1 ⟨vz1, uz1, rfl, ho, hb⟩
     obtain ⟨Az1, nz1, cz1, rfl⟩ := (ho.at_ 0 rfl).shape3
     obtain ⟨Bz1, mz1, dz1, rfl⟩ := (ho.at_ 1 rfl).shape3
     rw [HD1.out] at ho ⊢
     have S_57 := Lib.hid (S_56.out.rows ho hb)
     clear S_56 ho hb
     refine hK.out _ _ (mkS_56 _ _ _ _ _ _ _ _ _ S_57.out) (fun hHeld4 => ?_)
     clear hK K
     try simp only [pm, s0, sS]
     refine wpAnyH_ready (rs := [9]) (by kernel_rfl) (by simp) ?_
     refine AllReadyH.cons (o := ⟨some 57,.call { callee := .value (.func 82),args := #[.tmp 54,.tmp 56],argTypes := #[32,32] },32,"l06_links.go:155",#[⟨6,.data⟩,⟨8,.data⟩,⟨4,.chain⟩],none⟩) rfl (fun K hK => ?_) AllReadyH.nil
     go_simp
     go_at_call_of 82 (Value.agg #[Value.bool R.s,r0,r1])
     refine (minus_f R T r0 r1 t0 t1 _ GR.out GT.out (S_57.out.lkA HL.out).r (S_57.out.lkA HM.out).r).mono ?_
     rintro e wz2 ⟨vz2, uz2, rfl, ho, hb⟩
     obtain ⟨Az2, nz2, cz2, rfl⟩ := (ho.at_ 0 rfl).shape3
     obtain ⟨Bz2, mz2, dz2, rfl⟩ := (ho.at_ 1 rfl).shape3
     rw [HD2.out] at ho ⊢
     have S_58 := Lib.hid (S_57.out.rows ho hb)
     clear S_57 ho hb
     refine hK.out _ _ (mkS_56 _ _ _ _ _ _ _ _ _ S_58.out) (fun hHeld9 => ?_)
     clear hK K
     try simp only [pm, s0, sS]
     refine wpAnyH_ready (rs := [10]) (by kernel_rfl) (by simp) ?_
     refine AllReadyH.cons (o := ⟨some 58,.call { callee := .value (.func 81),args := #[.tmp 52,.tmp 57],argTypes := #[32,32] },32,"l06_links.go:155",#[⟨4,.data⟩,⟨9,.data⟩,⟨9,.chain⟩],none⟩) rfl (fun K hK => ?_) AllReadyH.nil
     go_simp
     go_at_call 81
     refine (sumOfSquares_f D1 D2 (.slice Az1 nz1 cz1) (.slice Bz1 mz1 dz1) (.slice Az2 nz2 cz2) (.slice Bz2 mz2 dz2) _ (HD1.out ▸ good_sub _ _) (HD2.out ▸ good_sub _ _) (S_58.out.fr 1 0 rfl rfl rfl) (S_58.out.fr 0 0 rfl rfl rfl)).mono ?_
     rintro e wz3 ⟨vz3, uz3, rfl, ho, hb⟩
     obtain ⟨Az3, nz3, cz3, rfl⟩ := (ho.at_ 0 rfl).shape3
     obtain ⟨Bz3, mz3, dz3, rfl⟩ := (ho.at_ 1 rfl).shape3
     rw [HH.out] at ho ⊢
     have S_59 := Lib.hid (S_58.out.rows ho hb)
     clear S_58 ho hb
     refine hK.out _ _ (mkS_56 _ _ _ _ _ _ _ _ _ S_59.out) (fun hHeld10 => ?_)
     clear hK K
     try simp only [pm, s0, sS]
     refine wpAnyH_ready (rs := [12]) (by kernel_rfl) (by simp) ?_
     refine AllReadyH.cons (o := ⟨none,.store 32 (.tmp 11) (.tmp 58),0,"l06_links.go:155",#[⟨11,.data⟩,⟨10,.data⟩,⟨10,.chain⟩,⟨0,.phase⟩,⟨1,.phase⟩,⟨2,.phase⟩,⟨3,.phase⟩,⟨4,.phase⟩,⟨5,.phase⟩,⟨6,.phase⟩,⟨7,.phase⟩,⟨8,.phase⟩,⟨9,.phase⟩,⟨10,.phase⟩,⟨11,.phase⟩],none⟩) rfl (fun K hK => ?_) AllReadyH.nil
     rw [if_pos (by rfl)]
     refine wp_store_mid _ _ _ rfl _ _ (List.toArray [.bool H.s, (.slice Az3 nz3 cz3), (.slice Bz3 mz3 dz3)]) rfl rfl (S_59.out.there_ 8 rfl rfl) (size_rat) (all_oneCell_toArray (cs := [.bool H.s, (.slice Az3 nz3 cz3), (.slice Bz3 mz3 dz3)]) (List.all_eq_true.mp rfl)) ?_
     simp only [Act.put]
     have S_60 := Lib.hid (S_59.out.setKit 8 [.bool H.s, (.slice Az3 nz3 cz3), (.slice Bz3 mz3 dz3)] rfl rfl)
     clear S_59
     refine hK.out _ _ (mkS_56 _ _ _ _ _ _ _ _ _ S_60.out) (fun hHeld12 => ?_)
     clear hK K
     try simp only [pm, s0, sS]
     refine wpAnyH_done (by kernel_rfl) ?_ _
     refine NoPanic.normal ?_
     go_wp2_with fail
     go_meet
     refine ⟨_, Az3, nz3, cz3, Bz3, mz3, dz3, rfl, ?_⟩
     exact ((S_60.out.drop 2).drop 1)
   exact AllReadyH.nil
 obtain ⟨b_ap, Az3, nz3, cz3, Bz3, mz3, dz3, rfl, hst⟩ := hcut
 have S_106 := Lib.hid hst
 clear hst S_55
 have hne_rb_ap := S_106.out.ne 0 8 rfl rfl (by decide)
 have hne_ap_rb := S_106.out.ne 8 0 rfl rfl (by decide)
 have hne_ra_ap := S_106.out.ne 1 8 rfl rfl (by decide)
 have hne_ap_ra := S_106.out.ne 8 1 rfl rfl (by decide)
 have hne_l_ap := S_106.out.ne 2 8 rfl rfl (by decide)
 have hne_ap_l := S_106.out.ne 8 2 rfl rfl (by decide)
 have hne_k_ap := S_106.out.ne 3 8 rfl rfl (by decide)
 have hne_ap_k := S_106.out.ne 8 3 rfl rfl (by decide)
 have hne_v_ap := S_106.out.ne 4 8 rfl rfl (by decide)
 have hne_ap_v := S_106.out.ne 8 4 rfl rfl (by decide)
 have hne_w_ap := S_106.out.ne 5 8 rfl rfl (by decide)
 have hne_ap_w := S_106.out.ne 8 5 rfl rfl (by decide)
 have hne_tot_ap := S_106.out.ne 6 8 rfl rfl (by decide)
 have hne_ap_tot := S_106.out.ne 8 6 rfl rfl (by decide)
 have hne_mg_ap := S_106.out.ne 7 8 rfl rfl (by decide)
 have hne_ap_mg := S_106.out.ne 8 7 rfl rfl (by decide)
 obtain ⟨we, hwe⟩ : ∃ u, wc = u := ⟨_, rfl⟩
 rw [hwe] at S_106 ⊢
 clear hwe
 have hk_v_0_106 := S_106.out.cell 4 0 rfl rfl
 have hk_v_1_106 := S_106.out.cell 4 1 rfl rfl
 have hk_v_2_106 := S_106.out.cell 4 2 rfl rfl
 have hk_w_0_106 := S_106.out.cell 5 0 rfl rfl
 have hk_w_1_106 := S_106.out.cell 5 1 rfl rfl
 have hk_w_2_106 := S_106.out.cell 5 2 rfl rfl
 have hk_tot_0_106 := S_106.out.cell 6 0 rfl rfl
 have hk_tot_1_106 := S_106.out.cell 6 1 rfl rfl
 have hk_tot_2_106 := S_106.out.cell 6 2 rfl rfl
 have hk_ap_0_106 := S_106.out.cell 8 0 rfl rfl
 have hk_ap_1_106 := S_106.out.cell 8 1 rfl rfl
 have hk_ap_2_106 := S_106.out.cell 8 2 rfl rfl
 go_upto_region 5 with fail
 clear hk_v_0_106 hk_v_1_106 hk_v_2_106 hk_w_0_106 hk_w_1_106 hk_w_2_106 hk_tot_0_106 hk_tot_1_106 hk_tot_2_106 hk_ap_0_106 hk_ap_1_106 hk_ap_2_106
 go_cut [12] (fun ptr wx => ∃ blk Ae3 ne3 ce3 Be3 me3 de3,ptr = .pointer (some ⟨blk,0,none⟩) ∧ St w wx [(w.heap.size + 1 + 1 + 1,[.bool false,.slice none 0 0,.slice none 0 0]),(w.heap.size + 1 + 1,[.int .i64 0,.int .i64 0,.bool false,.slice none 0 0,.slice none 0 0,.bool false,.slice none 0 0,.slice none 0 0,.bool false,.slice none 0 0,.slice none 0 0]),(w.heap.size + 1,[.int .i64 C,.int .i64 E,.bool V.s,(.slice Av nv cv),(.slice Bv mv dv),.bool U.s,u0,u1,.bool T.s,t0,t1]),(w.heap.size,[.int .i64 A,.int .i64 B,.bool P.s,(.slice Ap np cp),(.slice Bp mp dp),.bool Q.s,q0,q1,.bool R.s,r0,r1]),(b_v,[.bool P.s,(.slice Ap np cp),(.slice Bp mp dp)]),(b_w,[.bool V.s,(.slice Av nv cv),(.slice Bv mv dv)]),(w1.heap.size,[.bool S.s,(.slice A0 n0 c0),(.slice B0 m0 d0)]),(b_mg,[.int .i64 A,.int .i64 B,.bool S.s,(.slice A0 n0 c0),(.slice B0 m0 d0),.bool X.s,(.slice Ax4 nx4 cx4),(.slice Bx4 mx4 dx4),.bool Y.s,(.slice Ay4 ny4 cy4),(.slice By4 my4 dy4)]),(b_ap,[.bool H.s,(.slice Az3 nz3 cz3),(.slice Bz3 mz3 dz3)]),(blk,[.bool G.s,(.slice Ae3 ne3 ce3),(.slice Be3 me3 de3)])] [[((.slice Ae3 ne3 ce3),ints G.xs),((.slice Be3 me3 de3),ints G.ys)],[((.slice Az3 nz3 cz3),ints H.xs),((.slice Bz3 mz3 dz3),ints H.ys)],[((.slice Ay4 ny4 cy4),ints Y.xs),((.slice By4 my4 dy4),ints Y.ys)],[((.slice Ax4 nx4 cx4),ints X.xs),((.slice Bx4 mx4 dx4),ints X.ys)],[((.slice A0 n0 c0),ints S.xs),((.slice B0 m0 d0),ints S.ys)]])
 case first =>
   have mkS_107 : ∀ (w' : World) (x0_ x1_ x2_ x3_ x4_ : List Value) (bs' : List (Nat × List Value)) (cs' : List Chunk),St w w' ((w.heap.size + 1 + 1 + 1,x0_) :: (w.heap.size + 1 + 1,x1_) :: (w.heap.size + 1,x2_) :: (w.heap.size,x3_) :: (b_v,[.bool P.s,(.slice Ap np cp),(.slice Bp mp dp)]) :: (b_w,[.bool V.s,(.slice Av nv cv),(.slice Bv mv dv)]) :: (w1.heap.size,[.bool S.s,(.slice A0 n0 c0),(.slice B0 m0 d0)]) :: (b_mg,x4_) :: (b_ap,[.bool H.s,(.slice Az3 nz3 cz3),(.slice Bz3 mz3 dz3)]) :: bs') cs' → w'.cell? ⟨b_v,0,none⟩ = some (.bool P.s) ∧ w'.cell? ⟨b_v,1,none⟩ = some ((.slice Ap np cp)) ∧ w'.cell? ⟨b_v,2,none⟩ = some ((.slice Bp mp dp)) ∧ w'.cell? ⟨b_w,0,none⟩ = some (.bool V.s) ∧ w'.cell? ⟨b_w,1,none⟩ = some ((.slice Av nv cv)) ∧ w'.cell? ⟨b_w,2,none⟩ = some ((.slice Bv mv dv)) ∧ w'.cell? ⟨w1.heap.size,0,none⟩ = some (.bool S.s) ∧ w'.cell? ⟨w1.heap.size,1,none⟩ = some ((.slice A0 n0 c0)) ∧ w'.cell? ⟨w1.heap.size,2,none⟩ = some ((.slice B0 m0 d0)) ∧ w'.cell? ⟨b_ap,0,none⟩ = some (.bool H.s) ∧ w'.cell? ⟨b_ap,1,none⟩ = some ((.slice Az3 nz3 cz3)) ∧ w'.cell? ⟨b_ap,2,none⟩ = some ((.slice Bz3 mz3 dz3)) := fun w' x0_ x1_ x2_ x3_ x4_ bs' cs' h => ⟨h.cell 4 0 rfl rfl,h.cell 4 1 rfl rfl,h.cell 4 2 rfl rfl,h.cell 5 0 rfl rfl,h.cell 5 1 rfl rfl,h.cell 5 2 rfl rfl,h.cell 6 0 rfl rfl,h.cell 6 1 rfl rfl,h.cell 6 2 rfl rfl,h.cell 8 0 rfl rfl,h.cell 8 1 rfl rfl,h.cell 8 2 rfl rfl⟩
   refine wp_region_noPanic ?_
   refine wp_region_held_drew (S := (fun w' => w'.cell? ⟨b_v, 0, none⟩ = some (.bool P.s) ∧ w'.cell? ⟨b_v, 1, none⟩ = some ((.slice Ap np cp)) ∧ w'.cell? ⟨b_v, 2, none⟩ = some ((.slice Bp mp dp)) ∧ w'.cell? ⟨b_w, 0, none⟩ = some (.bool V.s) ∧ w'.cell? ⟨b_w, 1, none⟩ = some ((.slice Av nv cv)) ∧ w'.cell? ⟨b_w, 2, none⟩ = some ((.slice Bv mv dv)) ∧ w'.cell? ⟨w1.heap.size, 0, none⟩ = some (.bool S.s) ∧ w'.cell? ⟨w1.heap.size, 1, none⟩ = some ((.slice A0 n0 c0)) ∧ w'.cell? ⟨w1.heap.size, 2, none⟩ = some ((.slice B0 m0 d0)) ∧ w'.cell? ⟨b_ap, 0, none⟩ = some (.bool H.s) ∧ w'.cell? ⟨b_ap, 1, none⟩ = some ((.slice Az3 nz3 cz3)) ∧ w'.cell? ⟨b_ap, 2, none⟩ = some ((.slice Bz3 mz3 dz3)))) (by kernel_rfl) ?_ (fun hHeld => ?_)
   · exact mkS_107 _ _ _ _ _ _ _ _ S_106.out.drew
   refine tkH 0 ?_ ⟨some 59,.load 32 (.tmp 7),32,"l06_links.go:156",#[],none⟩ ?_ ?_
   rotate_left
   · intro w9 hSw; (try dsimp only at hSw); go_simp; try with_reducible rfl
   try simp only [pm, s0, sS]
   refine tkH 1 ?_ ⟨some 60,.load 32 (.tmp 8),32,"l06_links.go:156",#[],none⟩ ?_ ?_
   rotate_left
   · intro w9 hSw; (try dsimp only at hSw); go_simp; try with_reducible rfl
   try simp only [pm, s0, sS]
   refine tkH 3 ?_ ⟨some 62,.load 32 (.tmp 9),32,"l06_links.go:156",#[],none⟩ ?_ ?_
   rotate_left
   · intro w9 hSw; (try dsimp only at hSw); go_simp; try with_reducible rfl
   try simp only [pm, s0, sS]
   refine tkH 5 ?_ ⟨some 64,.load 32 (.tmp 11),32,"l06_links.go:156",#[],none⟩ ?_ ?_
   rotate_left
   · intro w9 hSw; (try dsimp only at hSw); go_simp; try with_reducible rfl
   try simp only [pm, s0, sS]
   refine wpAnyH_ready (rs := [2, 7]) (by kernel_rfl) (by simp) ?_
   refine AllReadyH.cons (o := ⟨some 61,.call { callee := .value (.func 56),args := #[.tmp 59,.tmp 60],argTypes := #[32,32] },32,"l06_links.go:156",#[⟨0,.data⟩,⟨1,.data⟩],none⟩) rfl (fun K hK => ?_) ?_
   · go_simp
     go_at_call_of 56 (Value.agg #[Value.bool P.s,(Value.slice Ap np cp),(Value.slice Bp mp dp)])
     go_at_call_of 56 (Value.agg #[Value.bool V.s,(Value.slice Av nv cv),(Value.slice Bv mv dv)])
     refine (times_f P V (.slice Ap np cp) (.slice Bp mp dp) (.slice Av nv cv) (.slice Bv mv dv) _ GP.out GV.out (S_106.out.drew.lkA HL.out).p (S_106.out.drew.lkA HM.out).p).mono ?_
     rintro e wf1 ⟨ve1, ue1, rfl, ho, hb⟩
     obtain ⟨Ae1, ne1, ce1, rfl⟩ := (ho.at_ 0 rfl).shape3
     obtain ⟨Be1, me1, de1, rfl⟩ := (ho.at_ 1 rfl).shape3
     rw [HW1.out] at ho ⊢
     have S_107 := Lib.hid (S_106.out.drew.rows ho hb)
     clear S_106 ho hb
     refine hK.out _ _ (mkS_107 _ _ _ _ _ _ _ _ S_107.out) (fun hHeld2 => ?_)
     clear hK K
     try simp only [pm, s0, sS]
     refine wpAnyH_ready (rs := [4, 7]) (by kernel_rfl) (by simp) ?_
     refine AllReadyH.cons (o := ⟨some 63,.call { callee := .value (.func 80),args := #[.tmp 61,.tmp 62],argTypes := #[32,32] },32,"l06_links.go:156",#[⟨2,.data⟩,⟨3,.data⟩,⟨2,.chain⟩],none⟩) rfl (fun K hK => ?_) ?_
     · go_simp
       go_at_call 80
       refine (dividedBy_f W1 S (.slice Ae1 ne1 ce1) (.slice Be1 me1 de1) (.slice A0 n0 c0) (.slice B0 m0 d0) _ (HW1.out ▸ good_mul _ _) (HS.out ▸ good_add P V) (S_107.out.fr 0 0 rfl rfl rfl) (S_107.out.fr 4 0 rfl rfl rfl)).mono ?_
       rintro e wf2 ⟨ve2, ue2, rfl, ho, hb⟩
       obtain ⟨Ae2, ne2, ce2, rfl⟩ := (ho.at_ 0 rfl).shape3
       obtain ⟨Be2, me2, de2, rfl⟩ := (ho.at_ 1 rfl).shape3
       rw [HW2.out] at ho ⊢
       have S_108 := Lib.hid (S_107.out.rows ho hb)
       clear S_107 ho hb
       refine hK.out _ _ (mkS_107 _ _ _ _ _ _ _ _ S_108.out) (fun hHeld4 => ?_)
       clear hK K
       try simp only [pm, s0, sS]
       refine wpAnyH_ready (rs := [6, 7]) (by kernel_rfl) (by simp) ?_
       refine AllReadyH.cons (o := ⟨some 65,.call { callee := .value (.func 56),args := #[.tmp 63,.tmp 64],argTypes := #[32,32] },32,"l06_links.go:156",#[⟨4,.data⟩,⟨5,.data⟩,⟨4,.chain⟩],none⟩) rfl (fun K hK => ?_) ?_
       · go_simp
         go_at_call_of 56 (Value.agg #[Value.bool W2.s,(Value.slice Ae2 ne2 ce2),(Value.slice Be2 me2 de2)])
         refine (times_f W2 H (.slice Ae2 ne2 ce2) (.slice Be2 me2 de2) (.slice Az3 nz3 cz3) (.slice Bz3 mz3 dz3) _ (HW2.out ▸ good_div _ _) (HH.out ▸ good_add _ _) (S_108.out.fr 0 0 rfl rfl rfl) (S_108.out.fr 2 0 rfl rfl rfl)).mono ?_
         rintro e wf3 ⟨ve3, ue3, rfl, ho, hb⟩
         obtain ⟨Ae3, ne3, ce3, rfl⟩ := (ho.at_ 0 rfl).shape3
         obtain ⟨Be3, me3, de3, rfl⟩ := (ho.at_ 1 rfl).shape3
         rw [HG.out] at ho ⊢
         have S_109 := Lib.hid (S_108.out.rows ho hb)
         clear S_108 ho hb
         refine hK.out _ _ (mkS_107 _ _ _ _ _ _ _ _ S_109.out) (fun hHeld6 => ?_)
         clear hK K
         try simp only [pm, s0, sS]
         refine wpAnyH_ready (rs := [7]) (by kernel_rfl) (by simp) ?_
         refine AllReadyH.cons (o := ⟨some 12,.alloc 32,0,"l06_links.go:156",#[],none⟩) rfl (fun K hK => ?_) AllReadyH.nil
         go_simp
         have S_110 := Lib.hid (S_109.out.allocE [.bool false, .slice none 0 0, .slice none 0 0] 32)
         clear S_109
         refine hK.out _ _ (mkS_107 _ _ _ _ _ _ _ _ S_110.out) (fun hHeld7 => ?_)
         clear hK K
         try simp only [pm, s0, sS]
         refine wpAnyH_ready (rs := [8]) (by kernel_rfl) (by simp) ?_
         refine AllReadyH.cons (o := ⟨none,.store 32 (.tmp 12) (.tmp 65),0,"l06_links.go:156",#[⟨7,.data⟩,⟨6,.data⟩,⟨6,.chain⟩,⟨0,.phase⟩,⟨1,.phase⟩,⟨2,.phase⟩,⟨3,.phase⟩,⟨4,.phase⟩,⟨5,.phase⟩,⟨6,.phase⟩,⟨7,.phase⟩],none⟩) rfl (fun K hK => ?_) AllReadyH.nil
         rw [if_pos (by rfl)]
         refine wp_store_mid _ _ _ rfl _ _ (List.toArray [.bool G.s, (.slice Ae3 ne3 ce3), (.slice Be3 me3 de3)]) rfl rfl (S_110.out.there_ 9 rfl rfl) (size_rat) (all_oneCell_toArray (cs := [.bool G.s, (.slice Ae3 ne3 ce3), (.slice Be3 me3 de3)]) (List.all_eq_true.mp rfl)) ?_
         simp only [Act.put]
         have S_111 := Lib.hid (S_110.out.setKit 9 [.bool G.s, (.slice Ae3 ne3 ce3), (.slice Be3 me3 de3)] rfl rfl)
         clear S_110
         refine hK.out _ _ (mkS_107 _ _ _ _ _ _ _ _ S_111.out) (fun hHeld8 => ?_)
         clear hK K
         try simp only [pm, s0, sS]
         refine wpAnyH_done (by kernel_rfl) ?_ _
         refine NoPanic.normal ?_
         go_wp2_with fail
         go_meet
         refine ⟨_, Ae3, ne3, ce3, Be3, me3, de3, rfl, ?_⟩
         exact ((S_111.out.drop 2).drop 1)
       refine AllReadyH.cons (o := ⟨some 12,.alloc 32,0,"l06_links.go:156",#[],none⟩) rfl (fun K hK => ?_) ?_
       · go_simp
         have S_109 := Lib.hid (S_108.out.allocE [.bool false, .slice none 0 0, .slice none 0 0] 32)
         clear S_108
         refine hK.out _ _ (mkS_107 _ _ _ _ _ _ _ _ S_109.out) (fun hHeld7 => ?_)
         clear hK K
         try simp only [pm, s0, sS]
         refine wpAnyH_ready (rs := [6]) (by kernel_rfl) (by simp) ?_
         refine AllReadyH.cons (o := ⟨some 65,.call { callee := .value (.func 56),args := #[.tmp 63,.tmp 64],argTypes := #[32,32] },32,"l06_links.go:156",#[⟨4,.data⟩,⟨5,.data⟩,⟨4,.chain⟩],none⟩) rfl (fun K hK => ?_) AllReadyH.nil
         go_simp
         go_at_call_of 56 (Value.agg #[Value.bool W2.s,(Value.slice Ae2 ne2 ce2),(Value.slice Be2 me2 de2)])
         refine (times_f W2 H (.slice Ae2 ne2 ce2) (.slice Be2 me2 de2) (.slice Az3 nz3 cz3) (.slice Bz3 mz3 dz3) _ (HW2.out ▸ good_div _ _) (HH.out ▸ good_add _ _) (S_109.out.fr 0 0 rfl rfl rfl) (S_109.out.fr 2 0 rfl rfl rfl)).mono ?_
         rintro e wf3 ⟨ve3, ue3, rfl, ho, hb⟩
         obtain ⟨Ae3, ne3, ce3, rfl⟩ := (ho.at_ 0 rfl).shape3
         obtain ⟨Be3, me3, de3, rfl⟩ := (ho.at_ 1 rfl).shape3
         rw [HG.out] at ho ⊢
         have S_110 := Lib.hid (S_109.out.rows ho hb)
         clear S_109 ho hb
         refine hK.out _ _ (mkS_107 _ _ _ _ _ _ _ _ S_110.out) (fun hHeld6 => ?_)
         clear hK K
         try simp only [pm, s0, sS]
         refine wpAnyH_ready (rs := [8]) (by kernel_rfl) (by simp) ?_
         refine AllReadyH.cons (o := ⟨none,.store 32 (.tmp 12) (.tmp 65),0,"l06_links.go:156",#[⟨7,.data⟩,⟨6,.data⟩,⟨6,.chain⟩,⟨0,.phase⟩,⟨1,.phase⟩,⟨2,.phase⟩,⟨3,.phase⟩,⟨4,.phase⟩,⟨5,.phase⟩,⟨6,.phase⟩,⟨7,.phase⟩],none⟩) rfl (fun K hK => ?_) AllReadyH.nil
         rw [if_pos (by rfl)]
         refine wp_store_mid _ _ _ rfl _ _ (List.toArray [.bool G.s, (.slice Ae3 ne3 ce3), (.slice Be3 me3 de3)]) rfl rfl (S_110.out.there_ 9 rfl rfl) (size_rat) (all_oneCell_toArray (cs := [.bool G.s, (.slice Ae3 ne3 ce3), (.slice Be3 me3 de3)]) (List.all_eq_true.mp rfl)) ?_
         simp only [Act.put]
         have S_111 := Lib.hid (S_110.out.setKit 9 [.bool G.s, (.slice Ae3 ne3 ce3), (.slice Be3 me3 de3)] rfl rfl)
         clear S_110
         refine hK.out _ _ (mkS_107 _ _ _ _ _ _ _ _ S_111.out) (fun hHeld8 => ?_)
         clear hK K
         try simp only [pm, s0, sS]
         refine wpAnyH_done (by kernel_rfl) ?_ _
         refine NoPanic.normal ?_
         go_wp2_with fail
         go_meet
         refine ⟨_, Ae3, ne3, ce3, Be3, me3, de3, rfl, ?_⟩
         exact ((S_111.out.drop 2).drop 1)
       exact AllReadyH.nil
     refine AllReadyH.cons (o := ⟨some 12,.alloc 32,0,"l06_links.go:156",#[],none⟩) rfl (fun K hK => ?_) ?_
     · go_simp
       have S_108 := Lib.hid (S_107.out.allocE [.bool false, .slice none 0 0, .slice none 0 0] 32)
       clear S_107
       refine hK.out _ _ (mkS_107 _ _ _ _ _ _ _ _ S_108.out) (fun hHeld7 => ?_)
       clear hK K
       try simp only [pm, s0, sS]
       refine wpAnyH_ready (rs := [4]) (by kernel_rfl) (by simp) ?_
       refine AllReadyH.cons (o := ⟨some 63,.call { callee := .value (.func 80),args := #[.tmp 61,.tmp 62],argTypes := #[32,32] },32,"l06_links.go:156",#[⟨2,.data⟩,⟨3,.data⟩,⟨2,.chain⟩],none⟩) rfl (fun K hK => ?_) AllReadyH.nil
       go_simp
       go_at_call 80
       refine (dividedBy_f W1 S (.slice Ae1 ne1 ce1) (.slice Be1 me1 de1) (.slice A0 n0 c0) (.slice B0 m0 d0) _ (HW1.out ▸ good_mul _ _) (HS.out ▸ good_add P V) (S_108.out.fr 0 0 rfl rfl rfl) (S_108.out.fr 4 0 rfl rfl rfl)).mono ?_
       rintro e wf2 ⟨ve2, ue2, rfl, ho, hb⟩
       obtain ⟨Ae2, ne2, ce2, rfl⟩ := (ho.at_ 0 rfl).shape3
       obtain ⟨Be2, me2, de2, rfl⟩ := (ho.at_ 1 rfl).shape3
       rw [HW2.out] at ho ⊢
       have S_109 := Lib.hid (S_108.out.rows ho hb)
       clear S_108 ho hb
       refine hK.out _ _ (mkS_107 _ _ _ _ _ _ _ _ S_109.out) (fun hHeld4 => ?_)
       clear hK K
       try simp only [pm, s0, sS]
       refine wpAnyH_ready (rs := [6]) (by kernel_rfl) (by simp) ?_
       refine AllReadyH.cons (o := ⟨some 65,.call { callee := .value (.func 56),args := #[.tmp 63,.tmp 64],argTypes := #[32,32] },32,"l06_links.go:156",#[⟨4,.data⟩,⟨5,.data⟩,⟨4,.chain⟩],none⟩) rfl (fun K hK => ?_) AllReadyH.nil
       go_simp
       go_at_call_of 56 (Value.agg #[Value.bool W2.s,(Value.slice Ae2 ne2 ce2),(Value.slice Be2 me2 de2)])
       refine (times_f W2 H (.slice Ae2 ne2 ce2) (.slice Be2 me2 de2) (.slice Az3 nz3 cz3) (.slice Bz3 mz3 dz3) _ (HW2.out ▸ good_div _ _) (HH.out ▸ good_add _ _) (S_109.out.fr 0 0 rfl rfl rfl) (S_109.out.fr 2 0 rfl rfl rfl)).mono ?_
       rintro e wf3 ⟨ve3, ue3, rfl, ho, hb⟩
       obtain ⟨Ae3, ne3, ce3, rfl⟩ := (ho.at_ 0 rfl).shape3
       obtain ⟨Be3, me3, de3, rfl⟩ := (ho.at_ 1 rfl).shape3
       rw [HG.out] at ho ⊢
       have S_110 := Lib.hid (S_109.out.rows ho hb)
       clear S_109 ho hb
       refine hK.out _ _ (mkS_107 _ _ _ _ _ _ _ _ S_110.out) (fun hHeld6 => ?_)
       clear hK K
       try simp only [pm, s0, sS]
       refine wpAnyH_ready (rs := [8]) (by kernel_rfl) (by simp) ?_
       refine AllReadyH.cons (o := ⟨none,.store 32 (.tmp 12) (.tmp 65),0,"l06_links.go:156",#[⟨7,.data⟩,⟨6,.data⟩,⟨6,.chain⟩,⟨0,.phase⟩,⟨1,.phase⟩,⟨2,.phase⟩,⟨3,.phase⟩,⟨4,.phase⟩,⟨5,.phase⟩,⟨6,.phase⟩,⟨7,.phase⟩],none⟩) rfl (fun K hK => ?_) AllReadyH.nil
       rw [if_pos (by rfl)]
       refine wp_store_mid _ _ _ rfl _ _ (List.toArray [.bool G.s, (.slice Ae3 ne3 ce3), (.slice Be3 me3 de3)]) rfl rfl (S_110.out.there_ 9 rfl rfl) (size_rat) (all_oneCell_toArray (cs := [.bool G.s, (.slice Ae3 ne3 ce3), (.slice Be3 me3 de3)]) (List.all_eq_true.mp rfl)) ?_
       simp only [Act.put]
       have S_111 := Lib.hid (S_110.out.setKit 9 [.bool G.s, (.slice Ae3 ne3 ce3), (.slice Be3 me3 de3)] rfl rfl)
       clear S_110
       refine hK.out _ _ (mkS_107 _ _ _ _ _ _ _ _ S_111.out) (fun hHeld8 => ?_)
       clear hK K
       try simp only [pm, s0, sS]
       refine wpAnyH_done (by kernel_rfl) ?_ _
       refine NoPanic.normal ?_
       go_wp2_with fail
       go_meet
       refine ⟨_, Ae3, ne3, ce3, Be3, me3, de3, rfl, ?_⟩
       exact ((S_111.out.drop 2).drop 1)
     exact AllReadyH.nil
   refine AllReadyH.cons (o := ⟨some 12,.alloc 32,0,"l06_links.go:156",#[],none⟩) rfl (fun K hK => ?_) ?_
   · go_simp
     have S_107 := Lib.hid (S_106.out.drew.allocE [.bool false, .slice none 0 0, .slice none 0 0] 32)
     clear S_106
     refine hK.out _ _ (mkS_107 _ _ _ _ _ _ _ _ S_107.out) (fun hHeld7 => ?_)
     clear hK K
     try simp only [pm, s0, sS]
     refine wpAnyH_ready (rs := [2]) (by kernel_rfl) (by simp) ?_
     refine AllReadyH.cons (o := ⟨some 61,.call { callee := .value (.func 56),args := #[.tmp 59,.tmp 60],argTypes := #[32,32] },32,"l06_links.go:156",#[⟨0,.data⟩,⟨1,.data⟩],none⟩) rfl (fun K hK => ?_) AllReadyH.nil
     go_simp
     go_at_call_of 56 (Value.agg #[Value.bool P.s,(Value.slice Ap np cp),(Value.slice Bp mp dp)])
     go_at_call_of 56 (Value.agg #[Value.bool V.s,(Value.slice Av nv cv),(Value.slice Bv mv dv)])
     refine (times_f P V (.slice Ap np cp) (.slice Bp mp dp) (.slice Av nv cv) (.slice Bv mv dv) _ GP.out GV.out (S_107.out.lkA HL.out).p (S_107.out.lkA HM.out).p).mono ?_
     rintro e wf1 ⟨ve1, ue1, rfl, ho, hb⟩
     obtain ⟨Ae1, ne1, ce1, rfl⟩ := (ho.at_ 0 rfl).shape3
     obtain ⟨Be1, me1, de1, rfl⟩ := (ho.at_ 1 rfl).shape3
     rw [HW1.out] at ho ⊢
     have S_108 := Lib.hid (S_107.out.rows ho hb)
     clear S_107 ho hb
     refine hK.out _ _ (mkS_107 _ _ _ _ _ _ _ _ S_108.out) (fun hHeld2 => ?_)
     clear hK K
     try simp only [pm, s0, sS]
     refine wpAnyH_ready (rs := [4]) (by kernel_rfl) (by simp) ?_
     refine AllReadyH.cons (o := ⟨some 63,.call { callee := .value (.func 80),args := #[.tmp 61,.tmp 62],argTypes := #[32,32] },32,"l06_links.go:156",#[⟨2,.data⟩,⟨3,.data⟩,⟨2,.chain⟩],none⟩) rfl (fun K hK => ?_) AllReadyH.nil
     go_simp
     go_at_call 80
     refine (dividedBy_f W1 S (.slice Ae1 ne1 ce1) (.slice Be1 me1 de1) (.slice A0 n0 c0) (.slice B0 m0 d0) _ (HW1.out ▸ good_mul _ _) (HS.out ▸ good_add P V) (S_108.out.fr 0 0 rfl rfl rfl) (S_108.out.fr 4 0 rfl rfl rfl)).mono ?_
     rintro e wf2 ⟨ve2, ue2, rfl, ho, hb⟩
     obtain ⟨Ae2, ne2, ce2, rfl⟩ := (ho.at_ 0 rfl).shape3
     obtain ⟨Be2, me2, de2, rfl⟩ := (ho.at_ 1 rfl).shape3
     rw [HW2.out] at ho ⊢
     have S_109 := Lib.hid (S_108.out.rows ho hb)
     clear S_108 ho hb
     refine hK.out _ _ (mkS_107 _ _ _ _ _ _ _ _ S_109.out) (fun hHeld4 => ?_)
     clear hK K
     try simp only [pm, s0, sS]
     refine wpAnyH_ready (rs := [6]) (by kernel_rfl) (by simp) ?_
     refine AllReadyH.cons (o := ⟨some 65,.call { callee := .value (.func 56),args := #[.tmp 63,.tmp 64],argTypes := #[32,32] },32,"l06_links.go:156",#[⟨4,.data⟩,⟨5,.data⟩,⟨4,.chain⟩],none⟩) rfl (fun K hK => ?_) AllReadyH.nil
     go_simp
     go_at_call_of 56 (Value.agg #[Value.bool W2.s,(Value.slice Ae2 ne2 ce2),(Value.slice Be2 me2 de2)])
     refine (times_f W2 H (.slice Ae2 ne2 ce2) (.slice Be2 me2 de2) (.slice Az3 nz3 cz3) (.slice Bz3 mz3 dz3) _ (HW2.out ▸ good_div _ _) (HH.out ▸ good_add _ _) (S_109.out.fr 0 0 rfl rfl rfl) (S_109.out.fr 2 0 rfl rfl rfl)).mono ?_
     rintro e wf3 ⟨ve3, ue3, rfl, ho, hb⟩
     obtain ⟨Ae3, ne3, ce3, rfl⟩ := (ho.at_ 0 rfl).shape3
     obtain ⟨Be3, me3, de3, rfl⟩ := (ho.at_ 1 rfl).shape3
     rw [HG.out] at ho ⊢
     have S_110 := Lib.hid (S_109.out.rows ho hb)
     clear S_109 ho hb
     refine hK.out _ _ (mkS_107 _ _ _ _ _ _ _ _ S_110.out) (fun hHeld6 => ?_)
     clear hK K
     try simp only [pm, s0, sS]
     refine wpAnyH_ready (rs := [8]) (by kernel_rfl) (by simp) ?_
     refine AllReadyH.cons (o := ⟨none,.store 32 (.tmp 12) (.tmp 65),0,"l06_links.go:156",#[⟨7,.data⟩,⟨6,.data⟩,⟨6,.chain⟩,⟨0,.phase⟩,⟨1,.phase⟩,⟨2,.phase⟩,⟨3,.phase⟩,⟨4,.phase⟩,⟨5,.phase⟩,⟨6,.phase⟩,⟨7,.phase⟩],none⟩) rfl (fun K hK => ?_) AllReadyH.nil
     rw [if_pos (by rfl)]
     refine wp_store_mid _ _ _ rfl _ _ (List.toArray [.bool G.s, (.slice Ae3 ne3 ce3), (.slice Be3 me3 de3)]) rfl rfl (S_110.out.there_ 9 rfl rfl) (size_rat) (all_oneCell_toArray (cs := [.bool G.s, (.slice Ae3 ne3 ce3), (.slice Be3 me3 de3)]) (List.all_eq_true.mp rfl)) ?_
     simp only [Act.put]
     have S_111 := Lib.hid (S_110.out.setKit 9 [.bool G.s, (.slice Ae3 ne3 ce3), (.slice Be3 me3 de3)] rfl rfl)
     clear S_110
     refine hK.out _ _ (mkS_107 _ _ _ _ _ _ _ _ S_111.out) (fun hHeld8 => ?_)
     clear hK K
     try simp only [pm, s0, sS]
     refine wpAnyH_done (by kernel_rfl) ?_ _
     refine NoPanic.normal ?_
     go_wp2_with fail
     go_meet
     refine ⟨_, Ae3, ne3, ce3, Be3, me3, de3, rfl, ?_⟩
     exact ((S_111.out.drop 2).drop 1)
   exact AllReadyH.nil
 obtain ⟨b_en, Ae3, ne3, ce3, Be3, me3, de3, rfl, hst⟩ := hcut
 have S_157 := Lib.hid hst
 clear hst S_106
 have hne_rb_en := S_157.out.ne 0 9 rfl rfl (by decide)
 have hne_en_rb := S_157.out.ne 9 0 rfl rfl (by decide)
 have hne_ra_en := S_157.out.ne 1 9 rfl rfl (by decide)
 have hne_en_ra := S_157.out.ne 9 1 rfl rfl (by decide)
 have hne_l_en := S_157.out.ne 2 9 rfl rfl (by decide)
 have hne_en_l := S_157.out.ne 9 2 rfl rfl (by decide)
 have hne_k_en := S_157.out.ne 3 9 rfl rfl (by decide)
 have hne_en_k := S_157.out.ne 9 3 rfl rfl (by decide)
 have hne_v_en := S_157.out.ne 4 9 rfl rfl (by decide)
 have hne_en_v := S_157.out.ne 9 4 rfl rfl (by decide)
 have hne_w_en := S_157.out.ne 5 9 rfl rfl (by decide)
 have hne_en_w := S_157.out.ne 9 5 rfl rfl (by decide)
 have hne_tot_en := S_157.out.ne 6 9 rfl rfl (by decide)
 have hne_en_tot := S_157.out.ne 9 6 rfl rfl (by decide)
 have hne_mg_en := S_157.out.ne 7 9 rfl rfl (by decide)
 have hne_en_mg := S_157.out.ne 9 7 rfl rfl (by decide)
 have hne_ap_en := S_157.out.ne 8 9 rfl rfl (by decide)
 have hne_en_ap := S_157.out.ne 9 8 rfl rfl (by decide)
 obtain ⟨wg, hwg⟩ : ∃ u, wc = u := ⟨_, rfl⟩
 rw [hwg] at S_157 ⊢
 clear hwg
 clear hne_rb_l hne_rb_k hne_rb_v hne_rb_w hne_rb_tot hne_rb_ap hne_ra_l hne_ra_k hne_ra_v hne_ra_w hne_ra_tot hne_ra_ap hne_l_rb hne_l_ra hne_l_k hne_l_v hne_l_w hne_l_tot hne_l_mg hne_l_ap hne_l_en hne_k_rb hne_k_ra hne_k_l hne_k_v hne_k_w hne_k_tot hne_k_mg hne_k_ap hne_k_en hne_v_rb hne_v_ra hne_v_l hne_v_k hne_v_w hne_v_tot hne_v_mg hne_v_ap hne_v_en hne_w_rb hne_w_ra hne_w_l hne_w_k hne_w_v hne_w_tot hne_w_mg hne_w_ap hne_w_en hne_tot_rb hne_tot_ra hne_tot_l hne_tot_k hne_tot_v hne_tot_w hne_tot_mg hne_tot_ap hne_tot_en hne_mg_l hne_mg_k hne_mg_v hne_mg_w hne_mg_tot hne_mg_ap hne_ap_rb hne_ap_ra hne_ap_l hne_ap_k hne_ap_v hne_ap_w hne_ap_tot hne_ap_mg hne_ap_en hne_en_l hne_en_k hne_en_v hne_en_w hne_en_tot hne_en_ap
 have S_158 := Lib.hid (S_157.out.dropBox 2)
 clear S_157
 have S_159 := Lib.hid (S_158.out.dropBox 2)
 clear S_158
 have S_160 := Lib.hid (S_159.out.dropBox 2)
 clear S_159
 have S_161 := Lib.hid (S_160.out.dropBox 2)
 clear S_160
 have S_162 := Lib.hid (S_161.out.dropBox 2)
 clear S_161
 have S_163 := Lib.hid (S_162.out.dropBox 3)
 clear S_162
 have S_164 := Lib.hid (show St w wg [(w.heap.size + 1 + 1 + 1,[.bool false,.slice none 0 0,.slice none 0 0]),(w.heap.size + 1 + 1,[.int .i64 0,.int .i64 0,.bool false,.slice none 0 0,.slice none 0 0,.bool false,.slice none 0 0,.slice none 0 0,.bool false,.slice none 0 0,.slice none 0 0]),(b_mg,[.int .i64 A,.int .i64 B,.bool S.s,(.slice A0 n0 c0),(.slice B0 m0 d0),.bool X.s,(.slice Ax4 nx4 cx4),(.slice Bx4 mx4 dx4),.bool Y.s,(.slice Ay4 ny4 cy4),(.slice By4 my4 dy4)]),(b_en,[.bool G.s,(.slice Ae3 ne3 ce3),(.slice Be3 me3 de3)])] [[((.slice Ae3 ne3 ce3),ints G.xs),((.slice Be3 me3 de3),ints G.ys)],[((.slice Az3 nz3 cz3),ints H.xs),((.slice Bz3 mz3 dz3),ints H.ys)],[((.slice Ay4 ny4 cy4),ints Y.xs),((.slice By4 my4 dy4),ints Y.ys)],[((.slice Ax4 nx4 cx4),ints X.xs),((.slice Bx4 mx4 dx4),ints X.ys)],[((.slice A0 n0 c0),ints S.xs),((.slice B0 m0 d0),ints S.ys)]] from S_163.out)
 clear S_163
 have hk_mg_0_164 := S_164.out.cell 2 0 rfl rfl
 have hk_mg_1_164 := S_164.out.cell 2 1 rfl rfl
 have hk_mg_2_164 := S_164.out.cell 2 2 rfl rfl
 have hk_mg_3_164 := S_164.out.cell 2 3 rfl rfl
 have hk_mg_4_164 := S_164.out.cell 2 4 rfl rfl
 have hk_mg_5_164 := S_164.out.cell 2 5 rfl rfl
 have hk_mg_6_164 := S_164.out.cell 2 6 rfl rfl
 have hk_mg_7_164 := S_164.out.cell 2 7 rfl rfl
 have hk_mg_8_164 := S_164.out.cell 2 8 rfl rfl
 have hk_mg_9_164 := S_164.out.cell 2 9 rfl rfl
 have hk_mg_10_164 := S_164.out.cell 2 10 rfl rfl
 go_wp2_with fail
 refine (isValidLink_i A B S X Y (.slice A0 n0 c0) (.slice B0 m0 d0) (.slice Ax4 nx4 cx4) (.slice Bx4 mx4 dx4) (.slice Ay4 ny4 cy4) (.slice By4 my4 dy4) _ ⟨(S_164.out.fr 4 0 rfl rfl rfl), (S_164.out.fr 3 0 rfl rfl rfl), (S_164.out.fr 2 0 rfl rfl rfl)⟩).mono ?_
 rintro e wh ⟨rfl, hb⟩
 have S_165 := Lib.hid (S_164.out.call hb)
 clear S_164
 clear hb
 by_cases h1 : okK A B S X Y = true
 · rw [h1]
   have H1 := Lib.hid h1
   clear h1
   clear hk_mg_0_164 hk_mg_1_164 hk_mg_2_164 hk_mg_3_164 hk_mg_4_164 hk_mg_5_164 hk_mg_6_164 hk_mg_7_164 hk_mg_8_164 hk_mg_9_164 hk_mg_10_164
   have hk_en_0_165 := S_165.out.cell 3 0 rfl rfl
   have hk_en_1_165 := S_165.out.cell 3 1 rfl rfl
   have hk_en_2_165 := S_165.out.cell 3 2 rfl rfl
   go_wp2_with fail
   refine (isValid_f G (.slice Ae3 ne3 ce3) (.slice Be3 me3 de3) _ (S_165.out.fr 0 0 rfl rfl rfl)).mono ?_
   rintro e wi ⟨rfl, hb⟩
   have S_166 := Lib.hid (S_165.out.call hb)
   clear S_165
   clear hb
   by_cases h2 : G.ok = true
   · have HY := Lib.hid (show ok = true by rw [← HOK.out, H1.out, h2]; rfl)
     rw [h2]
     clear h2
     clear hk_en_0_165 hk_en_1_165 hk_en_2_165
     have hk_mg_0_166 := S_166.out.cell 2 0 rfl rfl
     have hk_mg_1_166 := S_166.out.cell 2 1 rfl rfl
     have hk_mg_2_166 := S_166.out.cell 2 2 rfl rfl
     have hk_mg_3_166 := S_166.out.cell 2 3 rfl rfl
     have hk_mg_4_166 := S_166.out.cell 2 4 rfl rfl
     have hk_mg_5_166 := S_166.out.cell 2 5 rfl rfl
     have hk_mg_6_166 := S_166.out.cell 2 6 rfl rfl
     have hk_mg_7_166 := S_166.out.cell 2 7 rfl rfl
     have hk_mg_8_166 := S_166.out.cell 2 8 rfl rfl
     have hk_mg_9_166 := S_166.out.cell 2 9 rfl rfl
     have hk_mg_10_166 := S_166.out.cell 2 10 rfl rfl
     have hk_en_0_166 := S_166.out.cell 3 0 rfl rfl
     have hk_en_1_166 := S_166.out.cell 3 1 rfl rfl
     have hk_en_2_166 := S_166.out.cell 3 2 rfl rfl
     have hk_ra_0_166 := S_166.out.cell 1 0 rfl rfl
     have hk_ra_0_166f := S_166.out.froz 1 0 rfl rfl
     have hk_ra_1_166 := S_166.out.cell 1 1 rfl rfl
     have hk_ra_1_166f := S_166.out.froz 1 1 rfl rfl
     have hk_ra_2_166 := S_166.out.cell 1 2 rfl rfl
     have hk_ra_2_166f := S_166.out.froz 1 2 rfl rfl
     have hk_ra_3_166 := S_166.out.cell 1 3 rfl rfl
     have hk_ra_3_166f := S_166.out.froz 1 3 rfl rfl
     have hk_ra_4_166 := S_166.out.cell 1 4 rfl rfl
     have hk_ra_4_166f := S_166.out.froz 1 4 rfl rfl
     have hk_ra_5_166 := S_166.out.cell 1 5 rfl rfl
     have hk_ra_5_166f := S_166.out.froz 1 5 rfl rfl
     have hk_ra_6_166 := S_166.out.cell 1 6 rfl rfl
     have hk_ra_6_166f := S_166.out.froz 1 6 rfl rfl
     have hk_ra_7_166 := S_166.out.cell 1 7 rfl rfl
     have hk_ra_7_166f := S_166.out.froz 1 7 rfl rfl
     have hk_ra_8_166 := S_166.out.cell 1 8 rfl rfl
     have hk_ra_8_166f := S_166.out.froz 1 8 rfl rfl
     have hk_ra_9_166 := S_166.out.cell 1 9 rfl rfl
     have hk_ra_9_166f := S_166.out.froz 1 9 rfl rfl
     have hk_ra_10_166 := S_166.out.cell 1 10 rfl rfl
     have hk_ra_10_166f := S_166.out.froz 1 10 rfl rfl
     have hk_rb_0_166 := S_166.out.cell 0 0 rfl rfl
     have hk_rb_0_166f := S_166.out.froz 0 0 rfl rfl
     have hk_rb_1_166 := S_166.out.cell 0 1 rfl rfl
     have hk_rb_1_166f := S_166.out.froz 0 1 rfl rfl
     have hk_rb_2_166 := S_166.out.cell 0 2 rfl rfl
     have hk_rb_2_166f := S_166.out.froz 0 2 rfl rfl
     go_wp2
     go_region
     all_goals go_wp2_with fail
     all_goals have hr0 := S_166.out.cell 1 0 rfl rfl
     all_goals have hr1 := S_166.out.cell 1 1 rfl rfl
     all_goals have hr2 := S_166.out.cell 1 2 rfl rfl
     all_goals have hr3 := S_166.out.cell 1 3 rfl rfl
     all_goals have hr4 := S_166.out.cell 1 4 rfl rfl
     all_goals have hr5 := S_166.out.cell 1 5 rfl rfl
     all_goals have hr6 := S_166.out.cell 1 6 rfl rfl
     all_goals have hr7 := S_166.out.cell 1 7 rfl rfl
     all_goals have hr8 := S_166.out.cell 1 8 rfl rfl
     all_goals have hr9 := S_166.out.cell 1 9 rfl rfl
     all_goals have hr10 := S_166.out.cell 1 10 rfl rfl
     all_goals have hs0 := S_166.out.cell 0 0 rfl rfl
     all_goals have hs1 := S_166.out.cell 0 1 rfl rfl
     all_goals have hs2 := S_166.out.cell 0 2 rfl rfl
     all_goals refine bodyPost_ret (v := .tuple #[.agg #[.int .i64 A, .int .i64 B, .bool S.s, (.slice A0 n0 c0), (.slice B0 m0 d0), .bool X.s, (.slice Ax4 nx4 cx4), (.slice Bx4 mx4 dx4), .bool Y.s, (.slice Ay4 ny4 cy4), (.slice By4 my4 dy4)], .agg #[.bool G.s, (.slice Ae3 ne3 ce3), (.slice Be3 me3 de3)], .bool true]) (by simp [results, Tryz.results39, go_sem, hr0, hr1, hr2, hr3, hr4, hr5, hr6, hr7, hr8, hr9, hr10, hs0, hs1, hs2]) rfl ?_
     all_goals have SR0 := ((S_166.out.setAll 1 [.int .i64 A, .int .i64 B, .bool S.s, (.slice A0 n0 c0), (.slice B0 m0 d0), .bool X.s, (.slice Ax4 nx4 cx4), (.slice Bx4 mx4 dx4), .bool Y.s, (.slice Ay4 ny4 cy4), (.slice By4 my4 dy4)] rfl rfl).setAll 0 [.bool G.s, (.slice Ae3 ne3 ce3), (.slice Be3 me3 de3)] rfl rfl)
     all_goals simp only [setCells, Nat.reduceAdd, Nat.zero_add] at SR0
     all_goals have SR := Lib.hid SR0.drew
     all_goals exact OwnMG.yes HY.out ⟨_, _, _, _, _, _, _, _, rfl, SR.out.pick [4, 3, 2, 0] [[((.slice A0 n0 c0), ints S.xs), ((.slice B0 m0 d0), ints S.ys)], [((.slice Ax4 nx4 cx4), ints X.xs), ((.slice Bx4 mx4 dx4), ints X.ys)], [((.slice Ay4 ny4 cy4), ints Y.xs), ((.slice By4 my4 dy4), ints Y.ys)], [((.slice Ae3 ne3 ce3), ints G.xs), ((.slice Be3 me3 de3), ints G.ys)]] (by decide) rfl, SR.out.below⟩
   · rw [Bool.not_eq_true] at h2
     have HNO := Lib.hid (show ok = false by rw [← HOK.out, h2, Bool.and_false])
     rw [h2]
     clear h2
     clear hk_en_0_165 hk_en_1_165 hk_en_2_165
     have hk_ra_0_166 := S_166.out.cell 1 0 rfl rfl
     have hk_ra_0_166f := S_166.out.froz 1 0 rfl rfl
     have hk_ra_1_166 := S_166.out.cell 1 1 rfl rfl
     have hk_ra_1_166f := S_166.out.froz 1 1 rfl rfl
     have hk_ra_2_166 := S_166.out.cell 1 2 rfl rfl
     have hk_ra_2_166f := S_166.out.froz 1 2 rfl rfl
     have hk_ra_3_166 := S_166.out.cell 1 3 rfl rfl
     have hk_ra_3_166f := S_166.out.froz 1 3 rfl rfl
     have hk_ra_4_166 := S_166.out.cell 1 4 rfl rfl
     have hk_ra_4_166f := S_166.out.froz 1 4 rfl rfl
     have hk_ra_5_166 := S_166.out.cell 1 5 rfl rfl
     have hk_ra_5_166f := S_166.out.froz 1 5 rfl rfl
     have hk_ra_6_166 := S_166.out.cell 1 6 rfl rfl
     have hk_ra_6_166f := S_166.out.froz 1 6 rfl rfl
     have hk_ra_7_166 := S_166.out.cell 1 7 rfl rfl
     have hk_ra_7_166f := S_166.out.froz 1 7 rfl rfl
     have hk_ra_8_166 := S_166.out.cell 1 8 rfl rfl
     have hk_ra_8_166f := S_166.out.froz 1 8 rfl rfl
     have hk_ra_9_166 := S_166.out.cell 1 9 rfl rfl
     have hk_ra_9_166f := S_166.out.froz 1 9 rfl rfl
     have hk_ra_10_166 := S_166.out.cell 1 10 rfl rfl
     have hk_ra_10_166f := S_166.out.froz 1 10 rfl rfl
     have hk_rb_0_166 := S_166.out.cell 0 0 rfl rfl
     have hk_rb_0_166f := S_166.out.froz 0 0 rfl rfl
     have hk_rb_1_166 := S_166.out.cell 0 1 rfl rfl
     have hk_rb_1_166f := S_166.out.froz 0 1 rfl rfl
     have hk_rb_2_166 := S_166.out.cell 0 2 rfl rfl
     have hk_rb_2_166f := S_166.out.froz 0 2 rfl rfl
     go_wp2
     have SR := Lib.hid ((S_166.out.setAll 1 [.int .i64 0, .int .i64 0, .bool false, .slice none 0 0, .slice none 0 0, .bool false, .slice none 0 0, .slice none 0 0, .bool false, .slice none 0 0, .slice none 0 0] rfl rfl).setAll 0 [.bool false, .slice none 0 0, .slice none 0 0] rfl rfl)
     have hr0 := S_166.out.cell 1 0 rfl rfl
     have hr1 := S_166.out.cell 1 1 rfl rfl
     have hr2 := S_166.out.cell 1 2 rfl rfl
     have hr3 := S_166.out.cell 1 3 rfl rfl
     have hr4 := S_166.out.cell 1 4 rfl rfl
     have hr5 := S_166.out.cell 1 5 rfl rfl
     have hr6 := S_166.out.cell 1 6 rfl rfl
     have hr7 := S_166.out.cell 1 7 rfl rfl
     have hr8 := S_166.out.cell 1 8 rfl rfl
     have hr9 := S_166.out.cell 1 9 rfl rfl
     have hr10 := S_166.out.cell 1 10 rfl rfl
     have hs0 := S_166.out.cell 0 0 rfl rfl
     have hs1 := S_166.out.cell 0 1 rfl rfl
     have hs2 := S_166.out.cell 0 2 rfl rfl
     exact bodyPost_ret (v := .tuple #[.agg #[.int .i64 0, .int .i64 0, .bool false, .slice none 0 0, .slice none 0 0, .bool false, .slice none 0 0, .slice none 0 0, .bool false, .slice none 0 0, .slice none 0 0], .agg #[.bool false, .slice none 0 0, .slice none 0 0], .bool false]) (by simp [results, Tryz.results39, go_sem, hr0, hr1, hr2, hr3, hr4, hr5, hr6, hr7, hr8, hr9, hr10, hs0, hs1, hs2]) rfl (OwnMG.no HNO.out SR.out)
 · rw [Bool.not_eq_true] at h1
   have HNO := Lib.hid (show ok = false by rw [← HOK.out, h1, Bool.false_and])
   rw [h1]
   clear h1
   clear hk_mg_0_164 hk_mg_1_164 hk_mg_2_164 hk_mg_3_164 hk_mg_4_164 hk_mg_5_164 hk_mg_6_164 hk_mg_7_164 hk_mg_8_164 hk_mg_9_164 hk_mg_10_164
   have hk_ra_0_166 := S_165.out.cell 1 0 rfl rfl
   have hk_ra_0_166f := S_165.out.froz 1 0 rfl rfl
   have hk_ra_1_166 := S_165.out.cell 1 1 rfl rfl
   have hk_ra_1_166f := S_165.out.froz 1 1 rfl rfl
   have hk_ra_2_166 := S_165.out.cell 1 2 rfl rfl
   have hk_ra_2_166f := S_165.out.froz 1 2 rfl rfl
   have hk_ra_3_166 := S_165.out.cell 1 3 rfl rfl
   have hk_ra_3_166f := S_165.out.froz 1 3 rfl rfl
   have hk_ra_4_166 := S_165.out.cell 1 4 rfl rfl
   have hk_ra_4_166f := S_165.out.froz 1 4 rfl rfl
   have hk_ra_5_166 := S_165.out.cell 1 5 rfl rfl
   have hk_ra_5_166f := S_165.out.froz 1 5 rfl rfl
   have hk_ra_6_166 := S_165.out.cell 1 6 rfl rfl
   have hk_ra_6_166f := S_165.out.froz 1 6 rfl rfl
   have hk_ra_7_166 := S_165.out.cell 1 7 rfl rfl
   have hk_ra_7_166f := S_165.out.froz 1 7 rfl rfl
   have hk_ra_8_166 := S_165.out.cell 1 8 rfl rfl
   have hk_ra_8_166f := S_165.out.froz 1 8 rfl rfl
   have hk_ra_9_166 := S_165.out.cell 1 9 rfl rfl
   have hk_ra_9_166f := S_165.out.froz 1 9 rfl rfl
   have hk_ra_10_166 := S_165.out.cell 1 10 rfl rfl
   have hk_ra_10_166f := S_165.out.froz 1 10 rfl rfl
   have hk_rb_0_166 := S_165.out.cell 0 0 rfl rfl
   have hk_rb_0_166f := S_165.out.froz 0 0 rfl rfl
   have hk_rb_1_166 := S_165.out.cell 0 1 rfl rfl
   have hk_rb_1_166f := S_165.out.froz 0 1 rfl rfl
   have hk_rb_2_166 := S_165.out.cell 0 2 rfl rfl
   have hk_rb_2_166f := S_165.out.froz 0 2 rfl rfl
   go_wp2
   have SR := Lib.hid ((S_165.out.setAll 1 [.int .i64 0, .int .i64 0, .bool false, .slice none 0 0, .slice none 0 0, .bool false, .slice none 0 0, .slice none 0 0, .bool false, .slice none 0 0, .slice none 0 0] rfl rfl).setAll 0 [.bool false, .slice none 0 0, .slice none 0 0] rfl rfl)
   have hr0 := S_165.out.cell 1 0 rfl rfl
   have hr1 := S_165.out.cell 1 1 rfl rfl
   have hr2 := S_165.out.cell 1 2 rfl rfl
   have hr3 := S_165.out.cell 1 3 rfl rfl
   have hr4 := S_165.out.cell 1 4 rfl rfl
   have hr5 := S_165.out.cell 1 5 rfl rfl
   have hr6 := S_165.out.cell 1 6 rfl rfl
   have hr7 := S_165.out.cell 1 7 rfl rfl
   have hr8 := S_165.out.cell 1 8 rfl rfl
   have hr9 := S_165.out.cell 1 9 rfl rfl
   have hr10 := S_165.out.cell 1 10 rfl rfl
   have hs0 := S_165.out.cell 0 0 rfl rfl
   have hs1 := S_165.out.cell 0 1 rfl rfl
   have hs2 := S_165.out.cell 0 2 rfl rfl
   exact bodyPost_ret (v := .tuple #[.agg #[.int .i64 0, .int .i64 0, .bool false, .slice none 0 0, .slice none 0 0, .bool false, .slice none 0 0, .slice none 0 0, .bool false, .slice none 0 0, .slice none 0 0], .agg #[.bool false, .slice none 0 0, .slice none 0 0], .bool false]) (by simp [results, Tryz.results39, go_sem, hr0, hr1, hr2, hr3, hr4, hr5, hr6, hr7, hr8, hr9, hr10, hs0, hs1, hs2]) rfl (OwnMG.no HNO.out SR.out)
end Go.Proofs.YtnmmgjddaidpaaaGreat
