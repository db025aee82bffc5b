/- Conditionals: when they are valid; IsValidConditional of the program. Conditions: none. -/
import Derived.Test.YtaboodioabopnaaGreatNCond
import Derived.Test.YtaboodioabopnaaGreatNLkCmp
namespace Go.Proofs.YtaboodioabopnaaGreat
open Go.RowKit Nt Fr
set_option linter.unusedVariables false
abbrev Da := List Int × List Fr
def paNode (d : Da) : Int := d.1.headD 0
def paShare (d : Da) : Fr := d.2.headD Fr.zero
def paX (d : Da) : Fr := (d.2.drop 1).headD Fr.zero
def paY (d : Da) : Fr := (d.2.drop 2).headD Fr.zero
def paOk (N : Int) (d : Da) : Bool := decide (0 ≤ paNode d ∧ paNode d < 10) && (!(decide (paNode d = N)) && (decide (0 < (paShare d).sgn) && ((paX d).ok && (paY d).ok)))
def paLess (ds : List Da) (i : Nat) : Bool := match ds[i]?, ds[i + 1]? with | some y, some z => decide (paNode y < paNode z) | _, _ => true
def paAsc (ds : List Da) : Bool := (List.range ds.length).all (paLess ds)
def ascPa (ds : List Da) (k : Nat) : Prop := ∀ (i : Nat) (y z : Da), i + 1 < k → ds[i]? = some y → ds[i + 1]? = some z → paNode y < paNode z
def paSum (ds : List Da) : Fr := ds.foldl (fun s d => s.add (paShare d)) (Fr.of 0)
def okC (N : Int) (T : Fr) (ds : List Da) : Bool := decide (1 ≤ N ∧ N ≤ 9) && (decide (0 < T.sgn) && (paAsc ds && (ds.all (paOk N) && (decide (0 < ds.length) && (paSum ds).same (Fr.of 1)))))
theorem paAsc_iff {ds : List Da} : paAsc ds = true ↔ ascPa ds ds.length := by
 unfold paAsc
 rw [List.all_eq_true]
 constructor
 · intro h i y z hi hy hz
   have := h i (List.mem_range.mpr (by omega))
   unfold paLess at this
   rw [hy, hz] at this
   simpa using this
 · intro h i hi
   unfold paLess
   cases hy : ds[i]? with
   | none => rfl
   | some y =>
     cases hz : ds[i + 1]? with
     | none => rfl
     | some z => simpa using h i y z (List.getElem?_eq_some_iff.mp hz).1 hy hz
theorem ascPa_step {ds : List Da} {k : Nat} {y z : Da} (h : ascPa ds (k + 1)) (h1 : ds[k]? = some y) (h2 : ds[k + 1]? = some z) (hl : paNode y < paNode z) : ascPa ds (k + 2) := by
 intro i a b hi ha hb
 by_cases e : i = k
 · subst e
   obtain rfl := Option.some.inj (h1.symm.trans ha)
   obtain rfl := Option.some.inj (h2.symm.trans hb)
   exact hl
 · exact h i a b (by omega) ha hb
theorem ascPa_le {ds : List Da} {k : Nat} (h : k ≤ 1) : ascPa ds k := fun i y z hi => by omega
theorem paAsc_bad {ds : List Da} {k : Nat} {y z : Da} (h1 : ds[k]? = some y) (h2 : ds[k + 1]? = some z) (hl : ¬ paNode y < paNode z) : paAsc ds = false := by
 rw [← Bool.not_eq_true, paAsc_iff]
 exact fun h => hl (h k y z (List.getElem?_eq_some_iff.mp h2).1 h1 h2)
def okPa (N : Int) (ds : List Da) (k : Nat) : Prop := ∀ (i : Nat) (z : Da), i < k → ds[i]? = some z → paOk N z = true
theorem okPa_iff {N : Int} {ds : List Da} : ds.all (paOk N) = true ↔ okPa N ds ds.length := by
 rw [List.all_eq_true]
 constructor
 · intro h i z hi hz; exact h z (List.mem_of_getElem? hz)
 · intro h z hz
   obtain ⟨i, hi⟩ := List.mem_iff_getElem?.mp hz
   exact h i z (List.getElem?_eq_some_iff.mp hi).1 hi
theorem okPa_step {N : Int} {ds : List Da} {k : Nat} {z : Da} (h : okPa N ds k) (h1 : ds[k]? = some z) (hl : paOk N z = true) : okPa N ds (k + 1) := by
 intro i a hi ha
 by_cases e : i = k
 · subst e
   obtain rfl := Option.some.inj (h1.symm.trans ha)
   exact hl
 · exact h i a (by omega) ha
theorem okPa_bad {N : Int} {ds : List Da} {k : Nat} {z : Da} (h1 : ds[k]? = some z) (hl : paOk N z = false) : ds.all (paOk N) = false := by
 rw [← Bool.not_eq_true, okPa_iff]
 exact fun h => by have := h k z (List.getElem?_eq_some_iff.mp h1).1 h1; rw [hl] at this; exact absurd this (by decide)
theorem paSum_step {ds : List Da} {k : Nat} {z : Da} (h : ds[k]? = some z) : paSum (ds.take (k + 1)) = (paSum (ds.take k)).add (paShare z) := by
 obtain ⟨hk, e⟩ := List.getElem?_eq_some_iff.mp h
 unfold paSum
 rw [List.take_succ_eq_append_getElem hk, List.foldl_append, e]; rfl
theorem of0_good : (Fr.of 0).Good := .inl (by decide +kernel)
theorem paSum_good (ds : List Da) : (paSum ds).Good := by
 have key : ∀ (l : List Da) (s : Fr), s.Good → (l.foldl (fun s d => s.add (paShare d)) s).Good := by
   intro l
   induction l with
   | nil => exact fun s h => h
   | cons d r ih => exact fun s h => ih _ (good_add _ _)
 exact key ds _ of0_good
theorem same_01 : (Fr.of 0).same (Fr.of 1) = false := by decide +kernel
theorem okC_no {N : Int} {T : Fr} {ds : List Da} (h : ¬ (1 ≤ N ∧ N ≤ 9) ∨ ¬ 0 < T.sgn ∨ paAsc ds = false ∨ ds.all (paOk N) = false ∨ (paSum ds).same (Fr.of 1) = false) : okC N T ds = false := by
 unfold okC
 rcases h with h | h | h | h | h
 · rw [decide_eq_false h]; rfl
 · rw [decide_eq_false h]; simp
 · rw [h]; simp
 · rw [h]; simp
 · rw [h]; simp
theorem okC_end {N : Int} {T : Fr} {ds : List Da} (h1 : 1 ≤ N ∧ N ≤ 9) (h2 : 0 < T.sgn) (h3 : paAsc ds = true) (h4 : ds.all (paOk N) = true) : okC N T ds = (paSum ds).same (Fr.of 1) := by
 unfold okC
 rw [decide_eq_true h1, decide_eq_true h2, h3, h4]
 cases ds with
 | nil => simp only [List.length_nil, Nat.lt_irrefl, decide_false, Bool.true_and, Bool.false_and]; exact same_01.symm
 | cons d r => simp
theorem paOk_parts {N : Int} {d : Da} : paOk N d = true ↔ (0 ≤ paNode d ∧ paNode d < 10) ∧ ¬ paNode d = N ∧ 0 < (paShare d).sgn ∧ (paX d).ok = true ∧ (paY d).ok = true := by
 unfold paOk
 simp only [Bool.and_eq_true, decide_eq_true_eq, Bool.not_eq_true', decide_eq_false_iff_not]
theorem dats_get {zs : List Rc} {k : Nat} {z : Rc} (h : zs[k]? = some z) : (dats zs)[k]? = some z.dat := by simp [dats, h]
theorem Rc.shapes13 {w : World} {z : Rc} (hs : z.sh 1 3) (h : z.ra w) : ∃ A P Q R a0 n0 c0 a1 n1 c1 a2 n2 c2 a3 n3 c3 a4 n4 c4 a5 n5 c5, z = ⟨[A], [(P, .slice a0 n0 c0, .slice a1 n1 c1), (Q, .slice a2 n2 c2, .slice a3 n3 c3), (R, .slice a4 n4 c4, .slice a5 n5 c5)]⟩ := by
 obtain ⟨A, P, p0, p1, Q, q0, q1, R, r0, r1, rfl⟩ := Rc.sh13 hs
 obtain ⟨a0, n0, c0, a1, n1, c1, h1, h2⟩ := (h (P, p0, p1) (by simp)).shape
 obtain ⟨a2, n2, c2, a3, n3, c3, h3, h4⟩ := (h (Q, q0, q1) (by simp)).shape
 obtain ⟨a4, n4, c4, a5, n5, c5, h5, h6⟩ := (h (R, r0, r1) (by simp)).shape
 simp only at h1 h2 h3 h4 h5 h6
 subst h1 h2 h3 h4 h5 h6
 exact ⟨_, _, _, _, _, _, _, _, _, _, _, _, _, _, _, _, _, _, _, _, _, _, rfl⟩
theorem RArg.at_ {S ni nf : Nat} {w : World} {A : Option Addr} {n : Nat} {zs : List Rc} (h : RArg S ni nf w A n zs) {k : Nat} (hk : k < n) : ∃ g o z, A = some ⟨g, o, none⟩ ∧ g < w.heap.size ∧ zs[k]? = some z ∧ z.ra w ∧ z.sh ni nf ∧ ∀ (j : Nat) (v : Value), (z.cells)[j]? = some v → w.cell? ⟨g, o + k * S + j, none⟩ = some v := by
 obtain ⟨g, o, z, e, hg, hz, _, hs, hc⟩ := h.row.at_ hk
 exact ⟨g, o, z, e, hg, hz, h.arg z (List.mem_of_getElem? hz), hs, hc⟩
set_option maxRecDepth 100000 in
set_option maxHeartbeats 4000000 in
theorem isNode_any (n : Int) (w : World) : Calls Tryz.prog 58 #[.int .i64 n] w fun e w' => e = .returned (.bool (decide (0 ≤ n ∧ n < 10))) ∧ w' = w := by
 by_cases h : 0 ≤ n ∧ n < 10
 · rw [decide_eq_true h]; exact isNode_yes n w h
 · rw [decide_eq_false h]
   by_cases h1 : 0 ≤ n
   · have h3 : 9 < n := by omega
     have h4 : ¬ n < 10 := by omega
     have h5 : decide (n ≤ 9) = false := decide_eq_false (by omega)
     clear h
     go_enter Tryz.func58, Tryz.ntmps58
     go_wp2
     all_goals go_ret
     all_goals first | exact ⟨rfl, rfl⟩ | exact ⟨congrArg (fun b => Ending.returned (.bool b)) h5, rfl⟩
   · clear h
     go_enter Tryz.func58, Tryz.ntmps58
     go_wp2
     all_goals go_ret
     all_goals exact ⟨rfl, rfl⟩
set_option maxRecDepth 100000 in
set_option maxHeartbeats 4000000 in
theorem l06Node_any (n : Int) (w : World) : Calls Tryz.prog 52 #[.int .i64 n] w fun e w' => e = .returned (.bool (decide (0 ≤ n ∧ n < 10))) ∧ w' = w := by
 by_cases h : 0 ≤ n ∧ n < 10
 · rw [decide_eq_true h]; exact l06Node_yes n w h
 · rw [decide_eq_false h]
   by_cases h1 : 0 ≤ n
   · have h3 : 9 < n := by omega
     have h4 : ¬ n < 10 := by omega
     have h5 : decide (n ≤ 9) = false := decide_eq_false (by omega)
     clear h
     go_enter Tryz.func52, Tryz.ntmps52
     go_wp2
     all_goals go_ret
     all_goals first | exact ⟨rfl, rfl⟩ | exact ⟨congrArg (fun b => Ending.returned (.bool b)) h5, rfl⟩
   · clear h
     go_enter Tryz.func52, Tryz.ntmps52
     go_wp2
     all_goals go_ret
     all_goals exact ⟨rfl, rfl⟩
set_option maxRecDepth 100000 in
set_option maxHeartbeats 4000000 in
theorem comparePa_f (A B : Int) (P Q R V U T : Fr) (y0 y1 y2 y3 y4 y5 z0 z1 z2 z3 z4 z5 : Value) (w : World) :
   Calls Tryz.prog 165 #[.agg #[.int .i64 A, .bool P.s, y0, y1, .bool Q.s, y2, y3, .bool R.s, y4, y5], .agg #[.int .i64 B, .bool V.s, z0, z1, .bool U.s, z2, z3, .bool T.s, z4, z5]] w fun e w' => e = .returned (.int .i64 (cmpI2 A B)) ∧ Below w.heap.size w w' := by
 have S_1 := Lib.hid (show St w ((w.alloc (.cells #[.int .i64 A, .bool P.s, y0, y1, .bool Q.s, y2, y3, .bool R.s, y4, y5] 63)).alloc (.cells #[.int .i64 B, .bool V.s, z0, z1, .bool U.s, z2, z3, .bool T.s, z4, z5] 63)) [(w.heap.size + 1, [.int .i64 B, .bool V.s, z0, z1, .bool U.s, z2, z3, .bool T.s, z4, z5]), (w.heap.size, [.int .i64 A, .bool P.s, y0, y1, .bool Q.s, y2, y3, .bool R.s, y4, y5])] [] from (((St.start w).alloc_at (b := w.heap.size) [.int .i64 A, .bool P.s, y0, y1, .bool Q.s, y2, y3, .bool R.s, y4, y5] 63 (by first | rfl | simp)).alloc_at (b := w.heap.size + 1) [.int .i64 B, .bool V.s, z0, z1, .bool U.s, z2, z3, .bool T.s, z4, z5] 63 (by first | rfl | simp)))
 have hne_b_a : w.heap.size + 1 ≠ w.heap.size := by omega
 have hne_a_b : w.heap.size ≠ w.heap.size + 1 := by omega
 go_enter Tryz.func165, Tryz.ntmps165
 go_wp2_with fail
 refine (cmpCompare_any A B _).mono ?_
 rintro e w1 ⟨rfl, hb⟩
 have S_2 := Lib.hid (S_1.out.call hb)
 clear S_1
 clear hb
 go_wp2
 go_ret
 exact ⟨rfl, S_2.out.below⟩
set_option maxRecDepth 100000 in
set_option maxHeartbeats 4000000 in
theorem isAscendingPa_f (A : Option Addr) (n c : Nat) (zs : List Rc) (w : World) (hA : PaArg w A n zs) (hn : n ≤ 1048576) :
   Calls Tryz.prog 60 #[.slice A n c] w fun e w' => e = .returned (.bool (paAsc (dats zs))) ∧ Below w.heap.size w w' := by
 have HA := Lib.hid hA
 have HL := Lib.hid hA.row.len
 obtain ⟨ok, hok⟩ : ∃ z, paAsc (dats zs) = z := ⟨_, rfl⟩
 rw [hok]
 have HOK := Lib.hid hok
 clear hA hok
 have hm : ∀ (u : World) (v : Value), (method 281 63 v "loop.example/g00810/impl.compare").run Tryz.prog u = .ok (165, v) u := fun _ _ => by kernel_rfl
 go_enter Tryz.func60, Tryz.ntmps60
 go_wp2
 go_loopw [3] (fun i wr => ∃ k : Nat, (k ≤ n ∨ k = 1) ∧ 1 ≤ k ∧ i = .int .i64 k ∧ ascPa (dats zs) k ∧ Below w.heap.size w wr) (fun i _ => n - (intOf i).toNat)
 case atStart => exact ⟨1, .inr rfl, Nat.le_refl _, rfl, ascPa_le (Nat.le_refl _), Below.refl _ _⟩
 case round =>
   obtain ⟨k1, hk, hk1, rfl, hv, hb⟩ := hrel
   obtain ⟨k, rfl⟩ : ∃ k, k1 = k + 1 := ⟨k1 - 1, by omega⟩
   have HV := Lib.hid hv
   have HB := Lib.hid hb
   clear hv hb
   by_cases hlt : k + 1 < n
   · obtain ⟨g, o, y, rfl, hg, hy, hry, hsy, hcy⟩ := (HA.out.below HB.out).at_ (show k < n by omega)
     obtain ⟨g', o', z, hgo, _, hz, hr, hs, hc⟩ := (HA.out.below HB.out).at_ hlt
     obtain ⟨rfl, rfl⟩ : g = g' ∧ o = o' := by simpa using hgo
     obtain ⟨YA, YP, YQ, YR, b0, m0, e0, b1, m1, e1, b2, m2, e2, b3, m3, e3, b4, m4, e4, b5, m5, e5, rfl⟩ := Rc.shapes13 hsy hry
     obtain ⟨ZA, ZP, ZQ, ZR, a0, n0, c0, a1, n1, c1, a2, n2, c2, a3, n3, c3, a4, n4, c4, a5, n5, c5, rfl⟩ := Rc.shapes13 hs hr
     have HY := Lib.hid (dats_get hy)
     have HZ := Lib.hid (dats_get hz)
     have y0 : wr.cell? ⟨g, o + k * 10, none⟩ = some (.int .i64 YA) := hcy 0 _ rfl
     have y1 : wr.cell? ⟨g, o + k * 10 + 1, none⟩ = some (.bool YP.s) := hcy 1 _ rfl
     have y2 : wr.cell? ⟨g, o + k * 10 + 2, none⟩ = some ((.slice b0 m0 e0)) := hcy 2 _ rfl
     have y3 : wr.cell? ⟨g, o + k * 10 + 3, none⟩ = some ((.slice b1 m1 e1)) := hcy 3 _ rfl
     have y4 : wr.cell? ⟨g, o + k * 10 + 4, none⟩ = some (.bool YQ.s) := hcy 4 _ rfl
     have y5 : wr.cell? ⟨g, o + k * 10 + 5, none⟩ = some ((.slice b2 m2 e2)) := hcy 5 _ rfl
     have y6 : wr.cell? ⟨g, o + k * 10 + 6, none⟩ = some ((.slice b3 m3 e3)) := hcy 6 _ rfl
     have y7 : wr.cell? ⟨g, o + k * 10 + 7, none⟩ = some (.bool YR.s) := hcy 7 _ rfl
     have y8 : wr.cell? ⟨g, o + k * 10 + 8, none⟩ = some ((.slice b4 m4 e4)) := hcy 8 _ rfl
     have y9 : wr.cell? ⟨g, o + k * 10 + 9, none⟩ = some ((.slice b5 m5 e5)) := hcy 9 _ rfl
     have d0 : wr.cell? ⟨g, o + (k + 1) * 10, none⟩ = some (.int .i64 ZA) := hc 0 _ rfl
     have d1 : wr.cell? ⟨g, o + (k + 1) * 10 + 1, none⟩ = some (.bool ZP.s) := hc 1 _ rfl
     have d2 : wr.cell? ⟨g, o + (k + 1) * 10 + 2, none⟩ = some ((.slice a0 n0 c0)) := hc 2 _ rfl
     have d3 : wr.cell? ⟨g, o + (k + 1) * 10 + 3, none⟩ = some ((.slice a1 n1 c1)) := hc 3 _ rfl
     have d4 : wr.cell? ⟨g, o + (k + 1) * 10 + 4, none⟩ = some (.bool ZQ.s) := hc 4 _ rfl
     have d5 : wr.cell? ⟨g, o + (k + 1) * 10 + 5, none⟩ = some ((.slice a2 n2 c2)) := hc 5 _ rfl
     have d6 : wr.cell? ⟨g, o + (k + 1) * 10 + 6, none⟩ = some ((.slice a3 n3 c3)) := hc 6 _ rfl
     have d7 : wr.cell? ⟨g, o + (k + 1) * 10 + 7, none⟩ = some (.bool ZR.s) := hc 7 _ rfl
     have d8 : wr.cell? ⟨g, o + (k + 1) * 10 + 8, none⟩ = some ((.slice a4 n4 c4)) := hc 8 _ rfl
     have d9 : wr.cell? ⟨g, o + (k + 1) * 10 + 9, none⟩ = some ((.slice a5 n5 c5)) := hc 9 _ rfl
     clear hz hr hc hy hry hcy hgo hs hsy
     have hk0 : (0 : Int) ≤ (k : Int) := by omega
     have hk2 : (k : Int) < (n : Int) := by omega
     have hk3 : ((k + 1 : Nat) : Int) < (n : Int) := by omega
     have hk5 : (0 : Int) ≤ ((k + 1 : Nat) : Int) := by omega
     have hk4 : IntKind.i64.wrap (((k + 1 : Nat) : Int) - 1) = (k : Int) := by rw [IntKind.wrap_i64]; omega
     have hk6 : IntKind.i64.wrap (k : Int) = (k : Int) := by rw [IntKind.wrap_i64]; omega
     have hk7 : IntKind.i64.wrap ((k : Int) + 1 - 1) = (k : Int) := by rw [IntKind.wrap_i64]; omega
     have hk8 : (k : Int) + 1 < (n : Int) := by omega
     have hk9 : (0 : Int) ≤ (k : Int) + 1 := by omega
     obtain ⟨q, hq⟩ : ∃ z, cmpI2 YA ZA = z := ⟨_, rfl⟩
     have HQ := Lib.hid hq
     clear hq
     go_wp2
     go_region_held3 (fun w' => w'.cell? ⟨g, o + k * 10, none⟩ = some (.int .i64 YA) ∧ w'.cell? ⟨g, o + k * 10 + 1, none⟩ = some (.bool YP.s) ∧ w'.cell? ⟨g, o + k * 10 + 2, none⟩ = some ((.slice b0 m0 e0)) ∧ w'.cell? ⟨g, o + k * 10 + 3, none⟩ = some ((.slice b1 m1 e1)) ∧ w'.cell? ⟨g, o + k * 10 + 4, none⟩ = some (.bool YQ.s) ∧ w'.cell? ⟨g, o + k * 10 + 5, none⟩ = some ((.slice b2 m2 e2)) ∧ w'.cell? ⟨g, o + k * 10 + 6, none⟩ = some ((.slice b3 m3 e3)) ∧ w'.cell? ⟨g, o + k * 10 + 7, none⟩ = some (.bool YR.s) ∧ w'.cell? ⟨g, o + k * 10 + 8, none⟩ = some ((.slice b4 m4 e4)) ∧ w'.cell? ⟨g, o + k * 10 + 9, none⟩ = some ((.slice b5 m5 e5)) ∧ w'.cell? ⟨g, o + (k + 1) * 10, none⟩ = some (.int .i64 ZA) ∧ w'.cell? ⟨g, o + (k + 1) * 10 + 1, none⟩ = some (.bool ZP.s) ∧ w'.cell? ⟨g, o + (k + 1) * 10 + 2, none⟩ = some ((.slice a0 n0 c0)) ∧ w'.cell? ⟨g, o + (k + 1) * 10 + 3, none⟩ = some ((.slice a1 n1 c1)) ∧ w'.cell? ⟨g, o + (k + 1) * 10 + 4, none⟩ = some (.bool ZQ.s) ∧ w'.cell? ⟨g, o + (k + 1) * 10 + 5, none⟩ = some ((.slice a2 n2 c2)) ∧ w'.cell? ⟨g, o + (k + 1) * 10 + 6, none⟩ = some ((.slice a3 n3 c3)) ∧ w'.cell? ⟨g, o + (k + 1) * 10 + 7, none⟩ = some (.bool ZR.s) ∧ w'.cell? ⟨g, o + (k + 1) * 10 + 8, none⟩ = some ((.slice a4 n4 c4)) ∧ w'.cell? ⟨g, o + (k + 1) * 10 + 9, none⟩ = some ((.slice a5 n5 c5))) (go_keep)
       (first
         | (go_at_call 165
            refine (comparePa_f YA ZA YP YQ YR ZP ZQ ZR (.slice b0 m0 e0) (.slice b1 m1 e1) (.slice b2 m2 e2) (.slice b3 m3 e3) (.slice b4 m4 e4) (.slice b5 m5 e5) (.slice a0 n0 c0) (.slice a1 n1 c1) (.slice a2 n2 c2) (.slice a3 n3 c3) (.slice a4 n4 c4) (.slice a5 n5 c5) _).mono ?_
            rintro e w2 ⟨rfl, hb⟩
            rw [HQ.out]
            have HB2 := Lib.hid (HB.out.drew.trans (hb.mono HB.out.drew.size))
            have p0 := (hb.cell (p := ⟨g, o + k * 10, none⟩) hg).trans y0
            have q0 := (hb.cell (p := ⟨g, o + (k + 1) * 10, none⟩) hg).trans d0
            have p1 := (hb.cell (p := ⟨g, o + k * 10 + 1, none⟩) hg).trans y1
            have q1 := (hb.cell (p := ⟨g, o + (k + 1) * 10 + 1, none⟩) hg).trans d1
            have p2 := (hb.cell (p := ⟨g, o + k * 10 + 2, none⟩) hg).trans y2
            have q2 := (hb.cell (p := ⟨g, o + (k + 1) * 10 + 2, none⟩) hg).trans d2
            have p3 := (hb.cell (p := ⟨g, o + k * 10 + 3, none⟩) hg).trans y3
            have q3 := (hb.cell (p := ⟨g, o + (k + 1) * 10 + 3, none⟩) hg).trans d3
            have p4 := (hb.cell (p := ⟨g, o + k * 10 + 4, none⟩) hg).trans y4
            have q4 := (hb.cell (p := ⟨g, o + (k + 1) * 10 + 4, none⟩) hg).trans d4
            have p5 := (hb.cell (p := ⟨g, o + k * 10 + 5, none⟩) hg).trans y5
            have q5 := (hb.cell (p := ⟨g, o + (k + 1) * 10 + 5, none⟩) hg).trans d5
            have p6 := (hb.cell (p := ⟨g, o + k * 10 + 6, none⟩) hg).trans y6
            have q6 := (hb.cell (p := ⟨g, o + (k + 1) * 10 + 6, none⟩) hg).trans d6
            have p7 := (hb.cell (p := ⟨g, o + k * 10 + 7, none⟩) hg).trans y7
            have q7 := (hb.cell (p := ⟨g, o + (k + 1) * 10 + 7, none⟩) hg).trans d7
            have p8 := (hb.cell (p := ⟨g, o + k * 10 + 8, none⟩) hg).trans y8
            have q8 := (hb.cell (p := ⟨g, o + (k + 1) * 10 + 8, none⟩) hg).trans d8
            have p9 := (hb.cell (p := ⟨g, o + k * 10 + 9, none⟩) hg).trans y9
            have q9 := (hb.cell (p := ⟨g, o + (k + 1) * 10 + 9, none⟩) hg).trans d9
            clear hb))
     all_goals clear y0 d0 y1 d1 y2 d2 y3 d3 y4 d4 y5 d5 y6 d6 y7 d7 y8 d8 y9 d9
     by_cases hlq : 0 ≤ q
     · have HE := Lib.hid (show false = ok by rw [← HOK.out]; exact (paAsc_bad HY.out HZ.out (by show ¬ YA < ZA; have h := HQ.out; unfold cmpI2 at h; split at h <;> omega)).symm)
       go_wp2
       go_ret
       exact ⟨ret_bool HE.out, HB2.out⟩
     · have HA2 := Lib.hid (ascPa_step HV.out HY.out HZ.out (by show YA < ZA; have h := HQ.out; unfold cmpI2 at h; split at h <;> (try split at h) <;> omega))
       go_wp2
       exact ⟨⟨k + 2, by omega, by omega, by go_num, HA2.out, HB2.out⟩, by simp [intOf]; omega⟩
   · have HE := Lib.hid (show true = ok by rw [← HOK.out]; exact (paAsc_iff.mpr (by rw [dats_len, HL.out]; intro i y z hi; exact HV.out i y z (by omega))).symm)
     have hlt2 : ¬ ((k : Int) + 1 < (n : Int)) := by omega
     go_wp2
     go_ret
     exact ⟨ret_bool HE.out, HB.out⟩
set_option maxRecDepth 100000 in
set_option maxHeartbeats 4000000 in
theorem isValidConditional_i (N : Int) (T : Fr) (t0 t1 : Value) (A : Option Addr) (n c : Nat) (zs : List Rc) (w : World) (hT : FrA w T t0 t1) (hA : PaArg w A n zs) (hn : n ≤ 1048576) :
   Calls Tryz.prog 27 #[.agg #[.int .i64 N, .bool T.s, t0, t1, (.slice A n c)]] w fun e w' => e = .returned (.bool (okC N T (dats zs))) ∧ Below w.heap.size w w' := by
 have HT := Lib.hid hT
 have HA := Lib.hid hA
 have HL := Lib.hid hA.row.len
 obtain ⟨ok, hok⟩ : ∃ z, okC N T (dats zs) = z := ⟨_, rfl⟩
 rw [hok]
 have HOK := Lib.hid hok
 obtain ⟨g, hg⟩ : ∃ z, T.sgn = z := ⟨_, rfl⟩
 have HG := Lib.hid hg
 obtain ⟨asc, hasc⟩ : ∃ z, paAsc (dats zs) = z := ⟨_, rfl⟩
 have HAS := Lib.hid hasc
 clear hT hA hok hg hasc
 have S_1 := Lib.hid (show St w (w.alloc (.cells #[.int .i64 N, .bool T.s, t0, t1, (.slice A n c)] 60)) [(w.heap.size, [.int .i64 N, .bool T.s, t0, t1, (.slice A n c)])] [] from ((St.start w).alloc_at (b := w.heap.size) [.int .i64 N, .bool T.s, t0, t1, (.slice A n c)] 60 (by first | rfl | simp)))
 by_cases h0 : N = 0
 · have HE := Lib.hid (show false = ok by rw [← HOK.out]; exact (okC_no (.inl (by omega))).symm)
   subst h0
   go_enter Tryz.func27, Tryz.ntmps27
   go_wp2
   all_goals go_ret
   all_goals exact ⟨ret_bool HE.out, S_1.out.below⟩
 · have hdz : (N == 0) = false := by simp [h0]
   go_enter Tryz.func27, Tryz.ntmps27
   go_wp2_with fail
   refine (isNode_any N _).mono ?_
   rintro e w' ⟨rfl, hw⟩
   subst hw
   by_cases h1 : 0 ≤ N ∧ N < 10
   · have H1 := Lib.hid (show 1 ≤ N ∧ N ≤ 9 by omega)
     rw [decide_eq_true h1]
     clear h0
     go_wp2_with fail
     refine (ratSign_i T t0 t1 _ (S_1.out.frA HT.out)).mono ?_
     rintro e w1 ⟨rfl, hb⟩
     have S_2 := Lib.hid (S_1.out.call hb)
     clear S_1
     clear hb
     rw [HG.out]
     by_cases h2 : 0 < g
     · have H2 := Lib.hid h2
       have h2b : ¬ g ≤ 0 := by omega
       have hk_c_0_2 := S_2.out.cell 0 0 rfl rfl
       have hk_c_1_2 := S_2.out.cell 0 1 rfl rfl
       have hk_c_2_2 := S_2.out.cell 0 2 rfl rfl
       have hk_c_3_2 := S_2.out.cell 0 3 rfl rfl
       have hk_c_4_2 := S_2.out.cell 0 4 rfl rfl
       go_wp2_with fail
       refine (isAscendingPa_f A n c zs _ (HA.out.below S_2.out.below) hn).mono ?_
       rintro e w2 ⟨rfl, hb⟩
       have S_3 := Lib.hid (S_2.out.call hb)
       clear S_2
       clear hb
       rw [HAS.out]
       by_cases h3 : asc = true
       · have H3 := Lib.hid h3
         rw [h3]
         clear h3 h2 h2b h1
         go_wp2_with fail
         refine (ratFromInt_i 0 _ (by decide)).mono ?_
         rintro e w3 ⟨v0, u0, rfl, ho, hb⟩
         obtain ⟨A0, n0, c0, rfl⟩ := (ho.at_ 0 rfl).shape3
         obtain ⟨B0, m0, d0, rfl⟩ := (ho.at_ 1 rfl).shape3
         have S_4 := Lib.hid (S_3.out.rows ho hb)
         clear S_3
         clear ho hb
         have S_5 := Lib.hid (S_4.out.alloc [.bool (Fr.of 0).s, (.slice A0 n0 c0), (.slice B0 m0 d0)] 37)
         clear S_4
         have hne_c_sum := S_5.out.ne 1 0 rfl rfl (by decide)
         have hne_sum_c := S_5.out.ne 0 1 rfl rfl (by decide)
         clear hk_c_0_2 hk_c_1_2 hk_c_2_2 hk_c_3_2 hk_c_4_2
         have hk_c_0_5 := S_5.out.cell 1 0 rfl rfl
         have hk_c_1_5 := S_5.out.cell 1 1 rfl rfl
         have hk_c_2_5 := S_5.out.cell 1 2 rfl rfl
         have hk_c_3_5 := S_5.out.cell 1 3 rfl rfl
         have hk_c_4_5 := S_5.out.cell 1 4 rfl rfl
         have hk_sum_0_5 := S_5.out.cell 0 0 rfl rfl
         have hk_sum_0_5f := S_5.out.froz 0 0 rfl rfl
         have hk_sum_1_5 := S_5.out.cell 0 1 rfl rfl
         have hk_sum_1_5f := S_5.out.froz 0 1 rfl rfl
         have hk_sum_2_5 := S_5.out.cell 0 2 rfl rfl
         have hk_sum_2_5f := S_5.out.froz 0 2 rfl rfl
         go_wp2
         have SX := Lib.hid S_5.out
         go_loopw [31] (fun i wr => ∃ (k : Nat) (S : Fr) (Xs Ys : Value), k ≤ n ∧ i = .int .i64 k ∧ okPa N (dats zs) k ∧ paSum ((dats zs).take k) = S ∧ St w wr [(w3.heap.size, [.bool S.s, Xs, Ys]), (w.heap.size, [.int .i64 N, .bool T.s, t0, t1, (.slice A n c)])] [[(Xs, ints S.xs), (Ys, ints S.ys)]]) (fun i _ => n - (intOf i).toNat)
         case atStart => exact ⟨0, Fr.of 0, _, _, Nat.zero_le _, rfl, fun i z hi => by omega, rfl, SX.out⟩
         case round =>
           obtain ⟨k, S, Xs, Ys, hk, rfl, hok, hsum, hst⟩ := hrel
           have HV := Lib.hid hok
           have HS := Lib.hid hsum
           obtain ⟨As, ns, cs, rfl⟩ := ((hst.own 0 rfl).at_ 0 rfl).shape3
           obtain ⟨Bs, ms, ds, rfl⟩ := ((hst.own 0 rfl).at_ 1 rfl).shape3
           have R_0 := Lib.hid hst
           clear hok hsum hst SX
           by_cases hlt : k < n
           · obtain ⟨g1, o1, z, rfl, hg1, hz, hr, hs, hc⟩ := (HA.out.below R_0.out.below).at_ hlt
             obtain ⟨ZA, ZP, ZQ, ZR, a0, n0, c0, a1, n1, c1, a2, n2, c2, a3, n3, c3, a4, n4, c4, a5, n5, c5, rfl⟩ := Rc.shapes13 hs hr
             have HZ := Lib.hid (dats_get hz)
             have HR := Lib.hid hr
             have d0 : wr.cell? ⟨g1, o1 + k * 10, none⟩ = some (.int .i64 ZA) := hc 0 _ rfl
             have d1 : wr.cell? ⟨g1, o1 + k * 10 + 1, none⟩ = some (.bool ZP.s) := hc 1 _ rfl
             have d2 : wr.cell? ⟨g1, o1 + k * 10 + 2, none⟩ = some ((.slice a0 n0 c0)) := hc 2 _ rfl
             have d3 : wr.cell? ⟨g1, o1 + k * 10 + 3, none⟩ = some ((.slice a1 n1 c1)) := hc 3 _ rfl
             have d4 : wr.cell? ⟨g1, o1 + k * 10 + 4, none⟩ = some (.bool ZQ.s) := hc 4 _ rfl
             have d5 : wr.cell? ⟨g1, o1 + k * 10 + 5, none⟩ = some ((.slice a2 n2 c2)) := hc 5 _ rfl
             have d6 : wr.cell? ⟨g1, o1 + k * 10 + 6, none⟩ = some ((.slice a3 n3 c3)) := hc 6 _ rfl
             have d7 : wr.cell? ⟨g1, o1 + k * 10 + 7, none⟩ = some (.bool ZR.s) := hc 7 _ rfl
             have d8 : wr.cell? ⟨g1, o1 + k * 10 + 8, none⟩ = some ((.slice a4 n4 c4)) := hc 8 _ rfl
             have d9 : wr.cell? ⟨g1, o1 + k * 10 + 9, none⟩ = some ((.slice a5 n5 c5)) := hc 9 _ rfl
             clear hz hs hc hr
             obtain ⟨r, hr⟩ : ∃ z, ZP.sgn = z := ⟨_, rfl⟩
             have HRG := Lib.hid hr
             clear hr
             have hi0 : (0 : Int) ≤ (k : Int) := by omega
             have hi1 : (k : Int) < (n : Int) := by omega
             have S_6 := Lib.hid (R_0.out.alloc [.int .i64 ZA, .bool ZP.s, (.slice a0 n0 c0), (.slice a1 n1 c1), .bool ZQ.s, (.slice a2 n2 c2), (.slice a3 n3 c3), .bool ZR.s, (.slice a4 n4 c4), (.slice a5 n5 c5)] 63)
             clear R_0
             have hne_sum_p := S_6.out.ne 1 0 rfl rfl (by decide)
             have hne_p_sum := S_6.out.ne 0 1 rfl rfl (by decide)
             have hne_c_p := S_6.out.ne 2 0 rfl rfl (by decide)
             have hne_p_c := S_6.out.ne 0 2 rfl rfl (by decide)
             have HB := Lib.hid ((Below.refl wr.heap.size wr).alloc (Nat.le_refl _) (.cells #[.int .i64 ZA, .bool ZP.s, (.slice a0 n0 c0), (.slice a1 n1 c1), .bool ZQ.s, (.slice a2 n2 c2), (.slice a3 n3 c3), .bool ZR.s, (.slice a4 n4 c4), (.slice a5 n5 c5)] 63))
             clear hk_c_0_5 hk_c_1_5 hk_c_2_5 hk_c_3_5 hk_c_4_5 hk_sum_0_5 hk_sum_0_5f hk_sum_1_5 hk_sum_1_5f hk_sum_2_5 hk_sum_2_5f
             have hk_c_0_6 := S_6.out.cell 2 0 rfl rfl
             have hk_c_1_6 := S_6.out.cell 2 1 rfl rfl
             have hk_c_2_6 := S_6.out.cell 2 2 rfl rfl
             have hk_c_3_6 := S_6.out.cell 2 3 rfl rfl
             have hk_c_4_6 := S_6.out.cell 2 4 rfl rfl
             have hk_sum_0_6 := S_6.out.cell 1 0 rfl rfl
             have hk_sum_1_6 := S_6.out.cell 1 1 rfl rfl
             have hk_sum_2_6 := S_6.out.cell 1 2 rfl rfl
             have hk_p_0_6 := S_6.out.cell 0 0 rfl rfl
             have hk_p_1_6 := S_6.out.cell 0 1 rfl rfl
             have hk_p_2_6 := S_6.out.cell 0 2 rfl rfl
             have hk_p_3_6 := S_6.out.cell 0 3 rfl rfl
             have hk_p_4_6 := S_6.out.cell 0 4 rfl rfl
             have hk_p_5_6 := S_6.out.cell 0 5 rfl rfl
             have hk_p_6_6 := S_6.out.cell 0 6 rfl rfl
             have hk_p_7_6 := S_6.out.cell 0 7 rfl rfl
             have hk_p_8_6 := S_6.out.cell 0 8 rfl rfl
             have hk_p_9_6 := S_6.out.cell 0 9 rfl rfl
             go_wp2_with fail
             refine (isNode_any ZA _).mono ?_
             rintro e w' ⟨rfl, hw⟩
             subst hw
             by_cases h1 : 0 ≤ ZA ∧ ZA < 10
             · rw [decide_eq_true h1]
               by_cases h2 : ZA = N
               · have HE := Lib.hid (show false = ok by rw [← HOK.out]; exact (okC_no (.inr (.inr (.inr (.inl (okPa_bad HZ.out (by rw [← Bool.not_eq_true, paOk_parts]; show ¬ ((0 ≤ ZA ∧ ZA < 10) ∧ ¬ ZA = N ∧ 0 < ZP.sgn ∧ ZQ.ok = true ∧ ZR.ok = true); exact fun h => h.2.1 h2))))))).symm)
                 subst h2
                 go_wp2
                 all_goals go_ret
                 all_goals exact ⟨ret_bool HE.out, S_6.out.below⟩
               · have h2b : (ZA == N) = false := by simp [h2]
                 go_wp2_with fail
                 refine (ratSign_i ZP (.slice a0 n0 c0) (.slice a1 n1 c1) _ (HR.out.below HB.out (ZP, .slice a0 n0 c0, .slice a1 n1 c1) (by simp))).mono ?_
                 rintro e w5 ⟨rfl, hb⟩
                 rw [HRG.out]
                 have HB2 := Lib.hid (HB.out.trans (hb.mono HB.out.size))
                 clear HB
                 have HB := Lib.hid HB2.out
                 clear HB2
                 have S_7 := Lib.hid (S_6.out.call hb)
                 clear S_6
                 clear hb
                 by_cases h3 : 0 < r
                 · have h3b : ¬ r ≤ 0 := by omega
                   clear hk_c_0_6 hk_c_1_6 hk_c_2_6 hk_c_3_6 hk_c_4_6 hk_sum_0_6 hk_sum_1_6 hk_sum_2_6 hk_p_0_6 hk_p_1_6 hk_p_2_6 hk_p_3_6 hk_p_4_6 hk_p_5_6 hk_p_6_6 hk_p_7_6 hk_p_8_6 hk_p_9_6
                   have hk_c_0_7 := S_7.out.cell 2 0 rfl rfl
                   have hk_c_1_7 := S_7.out.cell 2 1 rfl rfl
                   have hk_c_2_7 := S_7.out.cell 2 2 rfl rfl
                   have hk_c_3_7 := S_7.out.cell 2 3 rfl rfl
                   have hk_c_4_7 := S_7.out.cell 2 4 rfl rfl
                   have hk_sum_0_7 := S_7.out.cell 1 0 rfl rfl
                   have hk_sum_1_7 := S_7.out.cell 1 1 rfl rfl
                   have hk_sum_2_7 := S_7.out.cell 1 2 rfl rfl
                   have hk_p_0_7 := S_7.out.cell 0 0 rfl rfl
                   have hk_p_1_7 := S_7.out.cell 0 1 rfl rfl
                   have hk_p_2_7 := S_7.out.cell 0 2 rfl rfl
                   have hk_p_3_7 := S_7.out.cell 0 3 rfl rfl
                   have hk_p_4_7 := S_7.out.cell 0 4 rfl rfl
                   have hk_p_5_7 := S_7.out.cell 0 5 rfl rfl
                   have hk_p_6_7 := S_7.out.cell 0 6 rfl rfl
                   have hk_p_7_7 := S_7.out.cell 0 7 rfl rfl
                   have hk_p_8_7 := S_7.out.cell 0 8 rfl rfl
                   have hk_p_9_7 := S_7.out.cell 0 9 rfl rfl
                   go_wp2_with fail
                   refine (areValid_f ZQ ZR (.slice a2 n2 c2) (.slice a3 n3 c3) (.slice a4 n4 c4) (.slice a5 n5 c5) _ (HR.out.below HB.out (ZQ, .slice a2 n2 c2, .slice a3 n3 c3) (by simp)) (HR.out.below HB.out (ZR, .slice a4 n4 c4, .slice a5 n5 c5) (by simp))).mono ?_
                   rintro e w6 ⟨rfl, hb⟩
                   have HB2 := Lib.hid (HB.out.trans (hb.mono HB.out.size))
                   clear HB
                   have HB := Lib.hid HB2.out
                   clear HB2
                   have S_8 := Lib.hid (S_7.out.call hb)
                   clear S_7
                   clear hb
                   by_cases h4 : (ZQ.ok && ZR.ok) = true
                   · have HP := Lib.hid (show paOk N (Rc.dat ⟨[ZA], [(ZP, .slice a0 n0 c0, .slice a1 n1 c1), (ZQ, .slice a2 n2 c2, .slice a3 n3 c3), (ZR, .slice a4 n4 c4, .slice a5 n5 c5)]⟩) = true from paOk_parts.mpr (show (0 ≤ ZA ∧ ZA < 10) ∧ ¬ ZA = N ∧ 0 < ZP.sgn ∧ ZQ.ok = true ∧ ZR.ok = true from ⟨h1, h2, HRG.out ▸ h3, (Bool.and_eq_true _ _ ▸ h4).1, (Bool.and_eq_true _ _ ▸ h4).2⟩))
                     have HGP := Lib.hid (show ZP.Good from .inl (sgn_ok (HRG.out ▸ h3)))
                     rw [h4]
                     clear h4
                     clear hk_c_0_7 hk_c_1_7 hk_c_2_7 hk_c_3_7 hk_c_4_7 hk_sum_0_7 hk_sum_1_7 hk_sum_2_7 hk_p_0_7 hk_p_1_7 hk_p_2_7 hk_p_3_7 hk_p_4_7 hk_p_5_7 hk_p_6_7 hk_p_7_7 hk_p_8_7 hk_p_9_7
                     have hk_c_0_8 := S_8.out.cell 2 0 rfl rfl
                     have hk_c_1_8 := S_8.out.cell 2 1 rfl rfl
                     have hk_c_2_8 := S_8.out.cell 2 2 rfl rfl
                     have hk_c_3_8 := S_8.out.cell 2 3 rfl rfl
                     have hk_c_4_8 := S_8.out.cell 2 4 rfl rfl
                     have hk_sum_0_8 := S_8.out.cell 1 0 rfl rfl
                     have hk_sum_0_8f := S_8.out.froz 1 0 rfl rfl
                     have hk_sum_1_8 := S_8.out.cell 1 1 rfl rfl
                     have hk_sum_1_8f := S_8.out.froz 1 1 rfl rfl
                     have hk_sum_2_8 := S_8.out.cell 1 2 rfl rfl
                     have hk_sum_2_8f := S_8.out.froz 1 2 rfl rfl
                     have hk_p_0_8 := S_8.out.cell 0 0 rfl rfl
                     have hk_p_1_8 := S_8.out.cell 0 1 rfl rfl
                     have hk_p_2_8 := S_8.out.cell 0 2 rfl rfl
                     have hk_p_3_8 := S_8.out.cell 0 3 rfl rfl
                     have hk_p_4_8 := S_8.out.cell 0 4 rfl rfl
                     have hk_p_5_8 := S_8.out.cell 0 5 rfl rfl
                     have hk_p_6_8 := S_8.out.cell 0 6 rfl rfl
                     have hk_p_7_8 := S_8.out.cell 0 7 rfl rfl
                     have hk_p_8_8 := S_8.out.cell 0 8 rfl rfl
                     have hk_p_9_8 := S_8.out.cell 0 9 rfl rfl
                     go_wp2_with fail
                     refine (plus_f S ZP (.slice As ns cs) (.slice Bs ms ds) (.slice a0 n0 c0) (.slice a1 n1 c1) _ (HS.out ▸ paSum_good _) HGP.out (S_8.out.fr 0 0 rfl rfl rfl) (HR.out.below HB.out (ZP, .slice a0 n0 c0, .slice a1 n1 c1) (by simp))).mono ?_
                     rintro e w7 ⟨vq, uq, rfl, ho, hb⟩
                     obtain ⟨Aq, nq, cq, rfl⟩ := (ho.at_ 0 rfl).shape3
                     obtain ⟨Bq, mq, dq, rfl⟩ := (ho.at_ 1 rfl).shape3
                     have S_9 := Lib.hid (S_8.out.rows ho hb)
                     clear S_8
                     clear ho hb
                     clear hk_c_0_8 hk_c_1_8 hk_c_2_8 hk_c_3_8 hk_c_4_8 hk_sum_0_8 hk_sum_0_8f hk_sum_1_8 hk_sum_1_8f hk_sum_2_8 hk_sum_2_8f hk_p_0_8 hk_p_1_8 hk_p_2_8 hk_p_3_8 hk_p_4_8 hk_p_5_8 hk_p_6_8 hk_p_7_8 hk_p_8_8 hk_p_9_8
                     have hk_c_0_9 := S_9.out.cell 2 0 rfl rfl
                     have hk_c_1_9 := S_9.out.cell 2 1 rfl rfl
                     have hk_c_2_9 := S_9.out.cell 2 2 rfl rfl
                     have hk_c_3_9 := S_9.out.cell 2 3 rfl rfl
                     have hk_c_4_9 := S_9.out.cell 2 4 rfl rfl
                     have hk_sum_0_9 := S_9.out.cell 1 0 rfl rfl
                     have hk_sum_0_9f := S_9.out.froz 1 0 rfl rfl
                     have hk_sum_1_9 := S_9.out.cell 1 1 rfl rfl
                     have hk_sum_1_9f := S_9.out.froz 1 1 rfl rfl
                     have hk_sum_2_9 := S_9.out.cell 1 2 rfl rfl
                     have hk_sum_2_9f := S_9.out.froz 1 2 rfl rfl
                     go_wp2
                     have SX := Lib.hid (S_9.out.setAll 1 [.bool (S.add ZP).s, (.slice Aq nq cq), (.slice Bq mq dq)] rfl rfl)
                     exact ⟨⟨k + 1, S.add ZP, _, _, by omega, by go_num, okPa_step HV.out HZ.out HP.out, by rw [paSum_step HZ.out, HS.out]; rfl, SX.out.sub (by simp) (List.Sublist.cons_cons _ (List.nil_sublist _))⟩, by simp [intOf]; omega⟩
                   · rw [Bool.not_eq_true] at h4
                     have HE := Lib.hid (show false = ok by rw [← HOK.out]; exact (okC_no (.inr (.inr (.inr (.inl (okPa_bad HZ.out (by rw [← Bool.not_eq_true, paOk_parts]; show ¬ ((0 ≤ ZA ∧ ZA < 10) ∧ ¬ ZA = N ∧ 0 < ZP.sgn ∧ ZQ.ok = true ∧ ZR.ok = true); exact fun h => by rw [h.2.2.2.1, h.2.2.2.2] at h4; exact absurd h4 (by decide)))))))).symm)
                     rw [h4]
                     go_wp2
                     all_goals go_ret
                     all_goals exact ⟨ret_bool HE.out, S_8.out.below⟩
                 · have HE := Lib.hid (show false = ok by rw [← HOK.out]; exact (okC_no (.inr (.inr (.inr (.inl (okPa_bad HZ.out (by rw [← Bool.not_eq_true, paOk_parts]; show ¬ ((0 ≤ ZA ∧ ZA < 10) ∧ ¬ ZA = N ∧ 0 < ZP.sgn ∧ ZQ.ok = true ∧ ZR.ok = true); exact fun h => h3 (HRG.out ▸ h.2.2.1)))))))).symm)
                   have h3b : r ≤ 0 := by omega
                   go_wp2
                   all_goals go_ret
                   all_goals exact ⟨ret_bool HE.out, S_7.out.below⟩
             · have HE := Lib.hid (show false = ok by rw [← HOK.out]; exact (okC_no (.inr (.inr (.inr (.inl (okPa_bad HZ.out (by rw [← Bool.not_eq_true, paOk_parts]; show ¬ ((0 ≤ ZA ∧ ZA < 10) ∧ ¬ ZA = N ∧ 0 < ZP.sgn ∧ ZQ.ok = true ∧ ZR.ok = true); exact fun h => h1 h.1))))))).symm)
               rw [decide_eq_false h1]
               go_wp2
               all_goals go_ret
               all_goals exact ⟨ret_bool HE.out, S_6.out.below⟩
           · obtain rfl : k = n := by omega
             have hl : (dats zs).take k = dats zs := List.take_of_length_le (by rw [dats_len, HL.out]; exact Nat.le_refl _)
             have HE := Lib.hid (show S.same (Fr.of 1) = ok by rw [← HS.out, hl, ← HOK.out]; exact (okC_end H1.out (HG.out ▸ H2.out) (HAS.out.trans H3.out) (okPa_iff.mpr (by rw [dats_len, HL.out]; exact HV.out))).symm)
             clear hl
             clear hk_c_0_5 hk_c_1_5 hk_c_2_5 hk_c_3_5 hk_c_4_5 hk_sum_0_5 hk_sum_0_5f hk_sum_1_5 hk_sum_1_5f hk_sum_2_5 hk_sum_2_5f
             have hk_sum_0_9 := R_0.out.cell 0 0 rfl rfl
             have hk_sum_1_9 := R_0.out.cell 0 1 rfl rfl
             have hk_sum_2_9 := R_0.out.cell 0 2 rfl rfl
             go_wp2
             go_region_held3 (fun w' => w'.cell? ⟨w3.heap.size, 0, none⟩ = some (.bool S.s) ∧ w'.cell? ⟨w3.heap.size, 1, none⟩ = some ((.slice As ns cs)) ∧ w'.cell? ⟨w3.heap.size, 2, none⟩ = some ((.slice Bs ms ds))) (go_keep)
               (first
                 | (go_at_call 38
                    refine (ratFromInt_i 1 _ (by decide)).mono ?_
                    rintro e w8 ⟨vone, uone, rfl, ho, hb⟩
                    obtain ⟨Aone, none, cone, rfl⟩ := (ho.at_ 0 rfl).shape3
                    obtain ⟨Bone, mone, done, rfl⟩ := (ho.at_ 1 rfl).shape3
                    have S_10 := Lib.hid (R_0.out.drew.rows ho hb)
                    clear R_0 ho hb
                    have hk_sum_0_10 := S_10.out.cell 0 0 rfl rfl
                    have hk_sum_1_10 := S_10.out.cell 0 1 rfl rfl
                    have hk_sum_2_10 := S_10.out.cell 0 2 rfl rfl)
                 | (go_at_call 62
                    refine (ratEqual_i S (Fr.of 1) (.slice As ns cs) (.slice Bs ms ds) (.slice Aone none cone) (.slice Bone mone done) _ (S_10.out.fr 1 0 rfl rfl rfl) (S_10.out.fr 0 0 rfl rfl rfl)).mono ?_
                    rintro e w9 ⟨rfl, hb⟩
                    have S_11 := Lib.hid (S_10.out.call hb)
                    clear S_10 hb
                    have hk_sum_0_11 := S_11.out.cell 0 0 rfl rfl
                    have hk_sum_1_11 := S_11.out.cell 0 1 rfl rfl
                    have hk_sum_2_11 := S_11.out.cell 0 2 rfl rfl))
             all_goals go_wp2
             all_goals go_ret
             all_goals exact ⟨ret_bool HE.out, S_11.out.below⟩
       · rw [Bool.not_eq_true] at h3
         have HE := Lib.hid (show false = ok by rw [← HOK.out]; exact (okC_no (.inr (.inr (.inl (HAS.out.trans h3))))).symm)
         rw [h3]
         go_wp2
         all_goals go_ret
         all_goals exact ⟨ret_bool HE.out, S_3.out.below⟩
     · have HE := Lib.hid (show false = ok by rw [← HOK.out]; exact (okC_no (.inr (.inl (by rw [HG.out]; exact h2)))).symm)
       have h2b : g ≤ 0 := by omega
       go_wp2
       all_goals go_ret
       all_goals exact ⟨ret_bool HE.out, S_2.out.below⟩
   · have HE := Lib.hid (show false = ok by rw [← HOK.out]; exact (okC_no (.inl (by omega))).symm)
     rw [decide_eq_false h1]
     go_wp2
     all_goals go_ret
     all_goals exact ⟨ret_bool HE.out, S_1.out.below⟩
end Go.Proofs.YtaboodioabopnaaGreat
