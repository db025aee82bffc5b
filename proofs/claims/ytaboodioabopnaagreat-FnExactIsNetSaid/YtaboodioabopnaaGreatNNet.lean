/- Slices of conditionals: how they read; the laws' helpers. Conditions: none. -/
import Derived.Test.YtaboodioabopnaaGreatNCond
namespace Go.Proofs.YtaboodioabopnaaGreat
open Go.ChangeShapes Go.WideShapes Go.ChangeAt Go.RowKit Go.Joins Go.Deep Nt Fr
set_option linter.unusedVariables false
structure Cd where
 N : Int
 T : Fr
 t0 : Value
 t1 : Value
 A : Option Addr
 n : Nat
 c : Nat
 zs : List Rc
def Cd.cells (m : Cd) : List Value := [.int .i64 m.N, .bool m.T.s, m.t0, m.t1, .slice m.A m.n m.c]
def Cd.rd (w : World) (m : Cd) : Prop := FrI w m.T m.t0 m.t1 ∧ RRow 10 1 3 w m.A m.n m.zs ∧ m.n ≤ m.c ∧ m.c ≤ maxLen
def Cd.ra (w : World) (m : Cd) : Prop := FrA w m.T m.t0 m.t1 ∧ RArg 10 1 3 w m.A m.n m.zs
abbrev Dn := Int × Fr × List (List Int × List Fr)
def Cd.dat (m : Cd) : Dn := (m.N, m.T, dats m.zs)
def datn (ms : List Cd) : List Dn := ms.map Cd.dat
theorem datn_len (ms : List Cd) : (datn ms).length = ms.length := by simp [datn]
theorem datn_get {ms : List Cd} {k : Nat} {m : Cd} (h : ms[k]? = some m) : (datn ms)[k]? = some m.dat := by simp [datn, h]
structure CSeq (Q : World → Cd → Prop) (w : World) (A : Option Addr) (n : Nat) (ms : List Cd) : Prop where
 len : ms.length = n
 cell : 0 < n → ∃ g o, A = some ⟨g, o, none⟩ ∧ g < w.heap.size ∧ ∀ (k : Nat) (m : Cd), ms[k]? = some m → ∀ (j : Nat) (v : Value), m.cells[j]? = some v → w.cell? ⟨g, o + k * 5 + j, none⟩ = some v
 rd : ∀ m ∈ ms, Q w m
abbrev CRow := CSeq Cd.rd
abbrev CArg := CSeq Cd.ra
section
variable {w w' : World} {A : Option Addr} {n : Nat} {ms : List Cd} {Q : World → Cd → Prop}
theorem Cd.rd.below {m : Cd} (h : m.rd w) (hb : Below w.heap.size w w') : m.rd w' := ⟨h.1.below hb, h.2.1.below hb, h.2.2⟩
theorem Cd.ra.below {m : Cd} (h : m.ra w) (hb : Below w.heap.size w w') : m.ra w' := ⟨h.1.below hb, h.2.below hb⟩
theorem CSeq.below_ (hq : ∀ m, Q w m → Q w' m) (h : CSeq Q w A n ms) (hb : Below w.heap.size w w') : CSeq Q w' A n ms := by
 refine ⟨h.len, fun hn => ?_, fun z hz => hq z (h.rd z hz)⟩
 obtain ⟨g, o, rfl, hg, hc⟩ := h.cell hn
 exact ⟨g, o, rfl, Nat.lt_of_lt_of_le hg hb.size, fun k m hk j v hj => (hb.cell (p := ⟨g, o + k * 5 + j, none⟩) hg).trans (hc k m hk j v hj)⟩
theorem CRow.below (h : CRow w A n ms) (hb : Below w.heap.size w w') : CRow w' A n ms := h.below_ (fun m hm => Cd.rd.below hm hb) hb
theorem CArg.below (h : CArg w A n ms) (hb : Below w.heap.size w w') : CArg w' A n ms := h.below_ (fun m hm => Cd.ra.below hm hb) hb
theorem CSeq.at_ (h : CSeq Q w A n ms) {k : Nat} (hk : k < n) : ∃ g o m, A = some ⟨g, o, none⟩ ∧ g < w.heap.size ∧ ms[k]? = some m ∧ Q w m ∧ ∀ (j : Nat) (v : Value), m.cells[j]? = some v → w.cell? ⟨g, o + k * 5 + j, none⟩ = some v := by
 obtain ⟨g, o, e, hg, hc⟩ := h.cell (by omega)
 have hk' : k < ms.length := by rw [h.len]; exact hk
 exact ⟨g, o, ms[k], e, hg, List.getElem?_eq_getElem hk', h.rd _ (List.getElem_mem hk'), hc k _ (List.getElem?_eq_getElem hk')⟩
theorem CRow.nil : CRow w none 0 [] := ⟨rfl, fun h => absurd h (Nat.lt_irrefl 0), by simp⟩
end
def Cd.len (m : Cd) : Nat := m.T.len + m.n + lensR m.zs
def lensC : List Cd → Nat
 | [] => 0
 | m :: r => m.len + lensC r
theorem lensC_app (a b : List Cd) : lensC (a ++ b) = lensC a + lensC b := by
 induction a with
 | nil => simp [lensC]
 | cons z r ih => simp [lensC, ih]; omega
theorem lensC_take_succ {zs : List Cd} {k : Nat} {z : Cd} (h : zs[k]? = some z) : lensC (zs.take (k + 1)) = lensC (zs.take k) + z.len := by
 obtain ⟨hk, e⟩ := List.getElem?_eq_some_iff.mp h
 rw [List.take_succ_eq_append_getElem hk, lensC_app, e]; simp [lensC]
theorem lensC_take_le (zs : List Cd) (k : Nat) : lensC (zs.take k) ≤ lensC zs := by
 have := lensC_app (zs.take k) (zs.drop k)
 rw [List.take_append_drop] at this; omega
theorem lenC_le {zs : List Cd} {k : Nat} {z : Cd} (h : zs[k]? = some z) : z.len ≤ lensC zs := by
 have h1 := lensC_take_succ h
 have h2 := lensC_take_le zs (k + 1)
 omega
set_option maxRecDepth 100000 in
set_option maxHeartbeats 4000000 in
theorem szConditionalS_any (A : Option Addr) (n c : Nat) (ms : List Cd) (k : Int) (w : World) (h0 : 0 ≤ k) (h1 : k ≤ 1048576) (hA : CRow w A n ms) (hn : n ≤ 9223372036854775807) :
   Calls Tryz.prog 5 #[.slice A n c, .int .i64 k] w fun e w' => e = .returned (.int .i64 (szOf k (n + lensC ms))) ∧ Below w.heap.size w w' := by
 have HA := Lib.hid hA
 clear hA
 by_cases h : k < n
 · rw [szOf_neg (show k < ((n + lensC ms : Nat) : Int) by omega)]
   go_enter Tryz.func5, Tryz.ntmps5
   go_wp2
   go_ret
   exact ⟨rfl, Below.refl _ _⟩
 · go_enter Tryz.func5, Tryz.ntmps5
   go_wp2
   go_loopw [5, 1] (fun i l wr => ∃ (j : Nat) (m : Int), j ≤ n ∧ i = .int .i64 j ∧ l = .int .i64 m ∧ m = k - n - (lensC (ms.take j) : Int) ∧ 0 ≤ m ∧ Below w.heap.size w wr) (fun i _ _ => n - (intOf i).toNat)
   case atStart => exact ⟨0, k - n, Nat.zero_le _, rfl, rfl, by simp [lensC], by omega, Below.refl _ _⟩
   case round =>
     obtain ⟨j, m, hj, rfl, rfl, hm, hm0, hb⟩ := hrel
     have HB := Lib.hid hb
     have HM := Lib.hid hm
     have hm1 : m ≤ 1048576 := by omega
     clear hb hm
     by_cases hlt : j < n
     · obtain ⟨g, o, z, rfl, hg, hz, hr, hc⟩ := (HA.out.below HB.out).at_ hlt
       obtain ⟨N, T, t0, t1, B, p, q, zs⟩ := z
       have e1 := lensC_take_succ hz
       have e2 := lensC_take_le ms (j + 1)
       have HR := Lib.hid hr
       have c0 : wr.cell? ⟨g, o + j * 5, none⟩ = some (.int .i64 N) := hc 0 _ rfl
       have c1 : wr.cell? ⟨g, o + j * 5 + 1, none⟩ = some (.bool T.s) := hc 1 _ rfl
       have c2 : wr.cell? ⟨g, o + j * 5 + 2, none⟩ = some (t0) := hc 2 _ rfl
       have c3 : wr.cell? ⟨g, o + j * 5 + 3, none⟩ = some (t1) := hc 3 _ rfl
       have c4 : wr.cell? ⟨g, o + j * 5 + 4, none⟩ = some (.slice B p q) := hc 4 _ rfl
       simp only [Cd.len] at e1
       clear hz hr hc
       go_wp2_with fail
       refine (szConditional_f N T t0 t1 B p q zs _ m hm0 hm1 HR.out.1 HR.out.2.1 (by have h1 := HR.out.2.2.1; have h2 := HR.out.2.2.2; simp only at h1 h2; unfold maxLen at h2; omega)).mono ?_
       rintro e w2 ⟨rfl, hb⟩
       have HB2 := Lib.hid (HB.out.trans (hb.mono HB.out.size))
       clear hb c0 c1 c2 c3 c4
       obtain ⟨zl, hzl⟩ : ∃ q : Nat, T.len + p + lensR zs = q := ⟨_, rfl⟩
       rw [hzl] at e1 ⊢
       clear hzl
       by_cases hs : m < (zl : Int)
       · rw [szOf_neg hs]
         have HE := Lib.hid (show szOf k (n + lensC ms) = -1 from szOf_neg (by have := HM.out; omega))
         clear e1 e2 hs
         go_wp2
         go_ret
         exact ⟨ret_int HE.out.symm, HB2.out⟩
       · rw [szOf_pos hs]
         have HE := Lib.hid (show m - (zl : Int) = k - n - (lensC (ms.take (j + 1)) : Int) by have := HM.out; omega)
         obtain ⟨m2, hm2⟩ : ∃ q : Int, m - (zl : Int) = q := ⟨_, rfl⟩
         have hm3 : 0 ≤ m2 := by omega
         rw [hm2] at HE ⊢
         clear e1 e2 hs hm2
         go_wp2
         exact ⟨⟨j + 1, m2, by omega, by go_num, rfl, HE.out, hm3, HB2.out⟩, by simp [intOf]; omega⟩
     · obtain rfl : j = n := by omega
       have hl : ms.take j = ms := by rw [List.take_of_length_le (by rw [HA.out.len]; exact Nat.le_refl _)]
       have HE := Lib.hid (show m = szOf k (j + lensC ms) by rw [szOf_pos (by have := HM.out; rw [hl] at this; omega)]; have := HM.out; rw [hl] at this; omega)
       clear hl
       go_wp2
       go_ret
       exact ⟨ret_int HE.out, HB.out⟩
set_option maxRecDepth 100000 in
set_option maxHeartbeats 4000000 in
theorem eqConditionalS_same (A B : Option Addr) (n c d : Nat) (ys zs : List Cd) (w : World) (hA : CRow w A n ys) (hB : CRow w B n zs) (hlk : datn ys = datn zs) (hn : n ≤ 1048576) (hr : ∀ y ∈ ys, y.n ≤ 1048576) :
   Calls Tryz.prog 9 #[.slice A n c, .slice B n d] w fun e w' => e = .returned (.bool true) ∧ Below w.heap.size w w' := by
 have HA := Lib.hid hA
 have HB := Lib.hid hB
 have HK := Lib.hid hlk
 have HN := Lib.hid hr
 clear hA hB hlk hr
 go_enter Tryz.func9, Tryz.ntmps9
 go_wp2
 go_loopw [5] (fun i wr => ∃ k : Nat, k ≤ n ∧ i = .int .i64 k ∧ Below w.heap.size w wr) (fun i _ => n - (intOf i).toNat)
 case atStart => exact ⟨0, Nat.zero_le _, rfl, Below.refl _ _⟩
 case round =>
   obtain ⟨k, hk, rfl, hb⟩ := hrel
   have HW := Lib.hid hb
   clear hb
   by_cases hlt : k < n
   · obtain ⟨g, o, y, rfl, hg, hy, hry, hc⟩ := (HA.out.below HW.out).at_ hlt
     obtain ⟨g', o', z, rfl, hg', hz, hrz, hd⟩ := (HB.out.below HW.out).at_ hlt
     have hl : y.dat = z.dat := by
       have h1 := datn_get hy
       rw [HK.out, datn_get hz] at h1
       exact (Option.some.inj h1).symm
     have hln := HN.out y (List.mem_of_getElem? hy)
     obtain ⟨N, T, t0, t1, Y, p, q, us⟩ := y
     obtain ⟨M, U, u0, u1, Z, p', q', vs⟩ := z
     simp only [Cd.dat, Prod.mk.injEq] at hl
     obtain ⟨rfl, rfl, hl⟩ := hl
     obtain rfl : p = p' := by
       have h1 := congrArg List.length hl
       rw [dats_len, dats_len] at h1
       have h2 := hry.2.1.len
       have h3 := hrz.2.1.len
       simp only at h1 h2 h3
       omega
     have HRY := Lib.hid (hry.below (Below.refl _ _).drew)
     have HRZ := Lib.hid (hrz.below (Below.refl _ _).drew)
     have HDL := Lib.hid hl
     have HP := Lib.hid (show p ≤ 1048576 from hln)
     have hk0 : (0 : Int) ≤ (k : Int) := by omega
     have hk1 : (k : Int) < (n : Int) := by omega
     have c0 : wr.cell? ⟨g, o + k * 5, none⟩ = some (.int .i64 N) := hc 0 _ rfl
     have c1 : wr.cell? ⟨g, o + k * 5 + 1, none⟩ = some (.bool T.s) := hc 1 _ rfl
     have c2 : wr.cell? ⟨g, o + k * 5 + 2, none⟩ = some (t0) := hc 2 _ rfl
     have c3 : wr.cell? ⟨g, o + k * 5 + 3, none⟩ = some (t1) := hc 3 _ rfl
     have c4 : wr.cell? ⟨g, o + k * 5 + 4, none⟩ = some (.slice Y p q) := hc 4 _ rfl
     have d0 : wr.cell? ⟨g', o' + k * 5, none⟩ = some (.int .i64 N) := hd 0 _ rfl
     have d1 : wr.cell? ⟨g', o' + k * 5 + 1, none⟩ = some (.bool T.s) := hd 1 _ rfl
     have d2 : wr.cell? ⟨g', o' + k * 5 + 2, none⟩ = some (u0) := hd 2 _ rfl
     have d3 : wr.cell? ⟨g', o' + k * 5 + 3, none⟩ = some (u1) := hd 3 _ rfl
     have d4 : wr.cell? ⟨g', o' + k * 5 + 4, none⟩ = some (.slice Z p q') := hd 4 _ rfl
     clear hc hd hry hrz hy hz hl hln
     go_wp2
     go_region_held3 (fun w' => w'.cell? ⟨g, o + k * 5, none⟩ = some (.int .i64 N) ∧ w'.cell? ⟨g, o + k * 5 + 1, none⟩ = some (.bool T.s) ∧ w'.cell? ⟨g, o + k * 5 + 2, none⟩ = some (t0) ∧ w'.cell? ⟨g, o + k * 5 + 3, none⟩ = some (t1) ∧ w'.cell? ⟨g, o + k * 5 + 4, none⟩ = some (.slice Y p q) ∧ w'.cell? ⟨g', o' + k * 5, none⟩ = some (.int .i64 N) ∧ w'.cell? ⟨g', o' + k * 5 + 1, none⟩ = some (.bool T.s) ∧ w'.cell? ⟨g', o' + k * 5 + 2, none⟩ = some (u0) ∧ w'.cell? ⟨g', o' + k * 5 + 3, none⟩ = some (u1) ∧ w'.cell? ⟨g', o' + k * 5 + 4, none⟩ = some (.slice Z p q')) (go_keep)
       (first
         | (go_at_call 28
            refine (eqConditional_f N T t0 t1 u0 u1 Y Z p q q' us vs _ HRY.out.1 HRZ.out.1 HRY.out.2.1 HRZ.out.2.1 HDL.out HP.out).mono ?_
            rintro e w2 ⟨rfl, hb⟩
            have HW2 := Lib.hid (HW.out.drew.trans (hb.mono HW.out.drew.size))
            have ec0 := (hb.cell (p := ⟨g, o + k * 5, none⟩) hg).trans c0
            have ed0 := (hb.cell (p := ⟨g', o' + k * 5, none⟩) hg').trans d0
            have ec1 := (hb.cell (p := ⟨g, o + k * 5 + 1, none⟩) hg).trans c1
            have ed1 := (hb.cell (p := ⟨g', o' + k * 5 + 1, none⟩) hg').trans d1
            have ec2 := (hb.cell (p := ⟨g, o + k * 5 + 2, none⟩) hg).trans c2
            have ed2 := (hb.cell (p := ⟨g', o' + k * 5 + 2, none⟩) hg').trans d2
            have ec3 := (hb.cell (p := ⟨g, o + k * 5 + 3, none⟩) hg).trans c3
            have ed3 := (hb.cell (p := ⟨g', o' + k * 5 + 3, none⟩) hg').trans d3
            have ec4 := (hb.cell (p := ⟨g, o + k * 5 + 4, none⟩) hg).trans c4
            have ed4 := (hb.cell (p := ⟨g', o' + k * 5 + 4, none⟩) hg').trans d4
            clear hb))
     all_goals go_wp2
     all_goals exact ⟨⟨k + 1, by omega, by go_num, HW2.out⟩, by simp [intOf]; omega⟩
   · go_wp2
     go_ret
     exact ⟨rfl, HW.out⟩
def zerosC : Nat → List Value
 | 0 => []
 | n + 1 => [.int .i64 0, .bool false, .slice none 0 0, .slice none 0 0, .slice none 0 0] ++ zerosC n
theorem zerosC_len (n : Nat) : (zerosC n).length = n * 5 := by
 induction n with
 | zero => rfl
 | succ n ih => simp [zerosC, ih]; omega
theorem infoC : (Tryz.prog.info? 60).map (fun i => (i.zero, i.size, i.bytes)) = some (some (.agg #[.int .i64 0, .bool false, .slice none 0 0, .slice none 0 0, .slice none 0 0]), 5, 88) := by kernel_rfl
theorem zerosC_at (n i : Nat) (h : i < n * 5) : (zerosC n)[i]? = some ((#[.int .i64 0, .bool false, .slice none 0 0, .slice none 0 0, .slice none 0 0] : Array Value)[i % 5]!) := by
 induction n generalizing i with
 | zero => omega
 | succ n ih =>
   by_cases hi : i < 5
   · rw [show zerosC (n + 1) = [.int .i64 0, .bool false, .slice none 0 0, .slice none 0 0, .slice none 0 0] ++ zerosC n from rfl, List.getElem?_append_left (by simpa using hi), Nat.mod_eq_of_lt hi]
     match i, hi with
     | 0, _ => rfl
     | 1, _ => rfl
     | 2, _ => rfl
     | 3, _ => rfl
     | 4, _ => rfl
   · rw [show zerosC (n + 1) = [.int .i64 0, .bool false, .slice none 0 0, .slice none 0 0, .slice none 0 0] ++ zerosC n from rfl, List.getElem?_append_right (by simpa using hi)]
     have := ih (i - 5) (by omega)
     rw [show ([.int .i64 0, .bool false, .slice none 0 0, .slice none 0 0, .slice none 0 0] : List Value).length = 5 from rfl, this, show (i - 5) % 5 = i % 5 by omega]
theorem madeC (n : Nat) : (madeCells (Value.agg #[.int .i64 0, .bool false, .slice none 0 0, .slice none 0 0, .slice none 0 0]).cells (n * 5)).toList = zerosC n := by
 apply List.ext_getElem?
 intro i
 by_cases hi : i < n * 5
 · rw [zerosC_at n i hi]
   simp [madeCells, hi, Value.cells]
 · rw [List.getElem?_eq_none (by simp [madeCells]; omega), List.getElem?_eq_none (by rw [zerosC_len]; omega)]
theorem midC {X rest : List Value} {m : Nat} (hX : X.length = m) (i : Nat) {v : Value} (hv : ([.int .i64 0, .bool false, .slice none 0 0, .slice none 0 0, .slice none 0 0] : List Value)[i]? = some v) : (X ++ ([.int .i64 0, .bool false, .slice none 0 0, .slice none 0 0, .slice none 0 0] ++ rest))[m + i]? = some v := by
 subst hX
 have hi : i < 5 := by have := (List.getElem?_eq_some_iff.mp hv).1; simpa using this
 rw [List.getElem?_append_right (by omega), Nat.add_sub_cancel_left, List.getElem?_append_left (by simpa using hi)]; exact hv
structure Yc where
 N : Int
 T : Fr
 p : Value
 q : Value
 b : Nat
 zs : List Rc
def Yc.cd (y : Yc) : Cd := ⟨y.N, y.T, y.p, y.q, some ⟨y.b, 0, none⟩, y.zs.length, y.zs.length, y.zs⟩
def Yc.cells (y : Yc) : List Value := [.int .i64 y.N, .bool y.T.s, y.p, y.q, .slice (some ⟨y.b, 0, none⟩) y.zs.length y.zs.length]
def cellsY (ys : List Yc) : List Value := ys.flatMap Yc.cells
def blkC (y : Yc) : Nat × List Value := (y.b, cellsR y.zs)
def chksC (y : Yc) : List Chunk := [rowsR y.zs, [(y.p, ints y.T.xs), (y.q, ints y.T.ys)]]
def datYc (ys : List Yc) : List Dn := ys.map fun y => (y.N, y.T, dats y.zs)
def shYc (ys : List Yc) : Prop := ∀ y ∈ ys, ∀ z ∈ y.zs, z.sh 1 3
theorem cellsY_len (ys : List Yc) : (cellsY ys).length = ys.length * 5 := by
 induction ys with
 | nil => rfl
 | cons y r ih => rw [show cellsY (y :: r) = y.cells ++ cellsY r from rfl, List.length_append, ih, List.length_cons]; simp [Yc.cells]; omega
theorem cellsY_at {ys : List Yc} {k : Nat} {y : Yc} (h : ys[k]? = some y) (j : Nat) {v : Value} (hj : y.cells[j]? = some v) : (cellsY ys)[k * 5 + j]? = some v := by
 have hj5 : j < 5 := by have := (List.getElem?_eq_some_iff.mp hj).1; simpa [Yc.cells] using this
 induction ys generalizing k with
 | nil => simp at h
 | cons x r ih =>
   rw [show cellsY (x :: r) = x.cells ++ cellsY r from rfl]
   have hx : x.cells.length = 5 := rfl
   cases k with
   | zero =>
     simp only [List.getElem?_cons_zero, Option.some.injEq] at h
     subst h
     rw [Nat.zero_mul, Nat.zero_add, List.getElem?_append_left (by omega)]; exact hj
   | succ k =>
     rw [List.getElem?_append_right (by rw [hx]; omega), hx, show (k + 1) * 5 + j - 5 = k * 5 + j by omega]
     exact ih (by simpa using h)
theorem St.crow {w0 w : World} {bs : List (Nat × List Value)} {cs : List Chunk} {b : Nat} {ys : List Yc} (h : St w0 w bs cs) (hb : (b, cellsY ys) ∈ bs) (hbs : ∀ y ∈ ys, blkC y ∈ bs) (hcs : ∀ y ∈ ys, ∀ l ∈ chksC y, l ∈ cs) (hsh : shYc ys) : CArg w (some ⟨b, 0, none⟩) ys.length (ys.map Yc.cd) := by
 refine ⟨by simp, fun hn => ⟨b, 0, rfl, (h.box _ hb).1.lt, fun k m hk j v hj => ?_⟩, ?_⟩
 · rw [Nat.zero_add]
   refine (h.box _ hb).1.cell _ _ ?_
   rw [List.getElem?_map] at hk
   cases e : ys[k]? with
   | none => rw [e] at hk; simp at hk
   | some y => rw [e] at hk; simp at hk; subst hk; exact cellsY_at e j hj
 · intro m hm
   obtain ⟨y, hy, rfl⟩ := List.mem_map.mp hm
   have hO := h.row _ (hcs y hy (rowsR y.zs) (by simp [chksC]))
   have hF := h.row _ (hcs y hy [(y.p, ints y.T.xs), (y.q, ints y.T.ys)] (by simp [chksC]))
   have hB := h.box _ (hbs y hy)
   have hra := rowsR_ra hO
   refine ⟨hF.fr, ⟨⟨rfl, fun _ => ⟨y.b, 0, rfl, hB.1.lt, fun k hk j v hj => ?_⟩, fun z hz => (hra z hz).rd, hsh y hy⟩, hra⟩⟩
   rw [Nat.zero_add]
   exact hB.1.cell _ _ (cellsR_at (Sz.of (hsh y hy) rfl) (List.getElem?_eq_getElem hk) j hj)
def OwnCs (ms : List Cd) (w : World) (e : Ending) (w' : World) : Prop :=
 ∃ b ys, e = .returned (.slice (some ⟨b, 0, none⟩) ms.length ms.length) ∧ datYc ys = datn ms ∧ shYc ys ∧ St w w' ((b, cellsY ys) :: ys.map blkC) (ys.flatMap chksC)
set_option maxRecDepth 100000 in
set_option maxHeartbeats 4000000 in
theorem toConditionalS_any (A : Option Addr) (n c : Nat) (ms : List Cd) (w : World) (hA : CRow w A n ms) (hn : n + lensC ms ≤ 1048576) :
   Calls Tryz.prog 7 #[.slice A n c] w (OwnCs ms w) := by
 obtain ⟨i0, hi, hz0, hz1, hz2⟩ := info_parts infoC
 have HL := Lib.hid hA.len
 have HA := Lib.hid hA
 have HN := Lib.hid hn
 have hn' : n ≤ 1048576 := by omega
 clear hA hn
 go_enter Tryz.func7, Tryz.ntmps7
 go_wp2_with (at_make; refine wpList_make_full _ rfl _ _ _ rfl w.heap.size 60 i0 _ 5 Tryz.underlying25 hi hz0 hz1 .i64 .i64 _ _ n rfl rfl rfl rfl (by rw [hz2]; omega) (by unfold maxLen; omega) (Nat.le_refl _) ?_; intro w1 hown hgrow)
 rw [madeC] at hown
 have hP : HeldL w1 w.heap.size (zerosC n) := by
   refine ⟨(hown.lt w.heap.size rfl).2, fun j v hj => ?_, fun j v hj => hown.frozenAt j⟩
   have hj' := (List.getElem?_eq_some_iff.mp hj).1
   rw [zerosC_len] at hj'
   rw [hown.cellAt j (by omega)]; exact hj
 have S_0 := Lib.hid ((St.start w).boxed ((Below.refl w.heap.size w).grown hgrow (Nat.le_refl _) (by simp)) hP (Nat.le_refl _))
 clear hown hgrow hP hi hz0 hz1 hz2
 go_wp2
 go_loopw [4] (fun i wr => ∃ (j : Nat) (ys : List Yc), j ≤ n ∧ i = .int .i64 j ∧ datYc ys = datn (ms.take j) ∧ shYc ys ∧ St w wr ((w.heap.size, cellsY ys ++ zerosC (n - j)) :: ys.map blkC) (ys.flatMap chksC)) (fun i _ => n - (intOf i).toNat)
 case atStart => exact ⟨0, [], Nat.zero_le _, rfl, rfl, by simp [shYc], S_0.out⟩
 case round =>
   obtain ⟨j, ys, hj, rfl, hlk, hsh, hst⟩ := hrel
   have S_1 := Lib.hid hst
   have HY := Lib.hid (show ys.length = j by have h1 := congrArg List.length hlk; rw [datn_len, List.length_take, HL.out] at h1; simp only [datYc, List.length_map] at h1; omega)
   have HK := Lib.hid hlk
   have HS := Lib.hid hsh
   clear hst hlk hsh
   by_cases hlt : j < n
   · obtain ⟨m, hm⟩ : ∃ m, n - j = m + 1 := ⟨n - j - 1, by omega⟩
     have hm' : n - (j + 1) = m := by omega
     rw [hm, show zerosC (m + 1) = [.int .i64 0, .bool false, .slice none 0 0, .slice none 0 0, .slice none 0 0] ++ zerosC m from rfl] at S_1
     have HM := Lib.hid hm'
     clear hm hm'
     obtain ⟨g, o, z, rfl, hg, hz, hr, hc⟩ := (HA.out.below S_1.out.below).at_ hlt
     obtain ⟨N, T, t0, t1, B, p, q, zs⟩ := z
     have HZ := Lib.hid hz
     have HR := Lib.hid hr
     have HZL := Lib.hid (show T.len + p + lensR zs ≤ 1048576 by have h1 := lenC_le hz; have h2 := HN.out; simp only [Cd.len] at h1; omega)
     have c0 : wr.cell? ⟨g, o + j * 5, none⟩ = some (.int .i64 N) := hc 0 _ rfl
     have c1 : wr.cell? ⟨g, o + j * 5 + 1, none⟩ = some (.bool T.s) := hc 1 _ rfl
     have c2 : wr.cell? ⟨g, o + j * 5 + 2, none⟩ = some (t0) := hc 2 _ rfl
     have c3 : wr.cell? ⟨g, o + j * 5 + 3, none⟩ = some (t1) := hc 3 _ rfl
     have c4 : wr.cell? ⟨g, o + j * 5 + 4, none⟩ = some (.slice B p q) := hc 4 _ rfl
     clear hz hr hc
     go_wp2_with fail
     refine (toConditional_f N T t0 t1 B p q zs _ HR.out.1 HR.out.2.1 HZL.out).mono ?_
     rintro e w2 ⟨v0, v1, b2, us, rfl, hd, hs2, h2⟩
     obtain ⟨A0, n0, k0, rfl⟩ := ((h2.own 1 rfl).at_ 0 rfl).shape3
     obtain ⟨A1, n1, k1, rfl⟩ := ((h2.own 1 rfl).at_ 1 rfl).shape3
     have S_2 := Lib.hid (S_1.out.over h2)
     have HUL := Lib.hid (show us.length = zs.length by have h1 := congrArg List.length hd; rw [dats_len, dats_len] at h1; exact h1)
     have HD := Lib.hid hd
     have HS2 := Lib.hid hs2
     clear h2 hd hs2 S_1 c0 c1 c2 c3 c4
     have HX := Lib.hid (show (cellsY ys).length = j * 5 by rw [cellsY_len, HY.out])
     have d0 : w2.cell? ⟨w.heap.size, j * 5, none⟩ = some (.int .i64 0) := S_2.out.cell 1 (j * 5 + 0) rfl (midC HX.out 0 rfl)
     have f0 : w2.frozen? ⟨w.heap.size, j * 5, none⟩ = false := S_2.out.froz 1 (j * 5 + 0) (v := .int .i64 0) rfl (midC HX.out 0 rfl)
     have d1 : w2.cell? ⟨w.heap.size, j * 5 + 1, none⟩ = some (.bool false) := S_2.out.cell 1 (j * 5 + 1) rfl (midC HX.out 1 rfl)
     have f1 : w2.frozen? ⟨w.heap.size, j * 5 + 1, none⟩ = false := S_2.out.froz 1 (j * 5 + 1) (v := .bool false) rfl (midC HX.out 1 rfl)
     have d2 : w2.cell? ⟨w.heap.size, j * 5 + 2, none⟩ = some (.slice none 0 0) := S_2.out.cell 1 (j * 5 + 2) rfl (midC HX.out 2 rfl)
     have f2 : w2.frozen? ⟨w.heap.size, j * 5 + 2, none⟩ = false := S_2.out.froz 1 (j * 5 + 2) (v := .slice none 0 0) rfl (midC HX.out 2 rfl)
     have d3 : w2.cell? ⟨w.heap.size, j * 5 + 3, none⟩ = some (.slice none 0 0) := S_2.out.cell 1 (j * 5 + 3) rfl (midC HX.out 3 rfl)
     have f3 : w2.frozen? ⟨w.heap.size, j * 5 + 3, none⟩ = false := S_2.out.froz 1 (j * 5 + 3) (v := .slice none 0 0) rfl (midC HX.out 3 rfl)
     have d4 : w2.cell? ⟨w.heap.size, j * 5 + 4, none⟩ = some (.slice none 0 0) := S_2.out.cell 1 (j * 5 + 4) rfl (midC HX.out 4 rfl)
     have f4 : w2.frozen? ⟨w.heap.size, j * 5 + 4, none⟩ = false := S_2.out.froz 1 (j * 5 + 4) (v := .slice none 0 0) rfl (midC HX.out 4 rfl)
     go_wp2
     refine ⟨⟨j + 1, ys ++ [⟨N, T, .slice A0 n0 k0, .slice A1 n1 k1, b2, us⟩], by omega, by go_num, ?_, ?_, ?_⟩, by simp [intOf]; omega⟩
     · obtain ⟨hj1, hj2⟩ := List.getElem?_eq_some_iff.mp HZ.out
       rw [List.take_succ_eq_append_getElem hj1, hj2]
       have h1 := HK.out
       simp only [datYc, datn, List.map_append, List.map_cons, List.map_nil] at h1 ⊢
       rw [h1, HD.out]; rfl
     · intro y hy
       rcases List.mem_append.mp hy with a | a
       · exact HS.out y a
       · obtain rfl := List.mem_singleton.mp a
         exact HS2.out
     · have T9 := S_2.out.setSeg (k := 1) (us := [.int .i64 N, .bool T.s, .slice A0 n0 k0, .slice A1 n1 k1, .slice (some ⟨b2, 0, none⟩) zs.length zs.length]) (X := cellsY ys) (old := [.int .i64 0, .bool false, .slice none 0 0, .slice none 0 0, .slice none 0 0]) (rest := zerosC m) (m := j * 5) rfl HX.out rfl
       rw [HM.out]
       have E1 : cellsY ys ++ ([.int .i64 N, .bool T.s, .slice A0 n0 k0, .slice A1 n1 k1, .slice (some ⟨b2, 0, none⟩) zs.length zs.length] ++ zerosC m) = cellsY (ys ++ [⟨N, T, .slice A0 n0 k0, .slice A1 n1 k1, b2, us⟩]) ++ zerosC m := by
         simp [cellsY, Yc.cells, HUL.out]
       rw [E1] at T9
       refine T9.perm ?_ ?_
       · simp only [List.set_cons_succ, List.set_cons_zero, List.cons_append, List.nil_append, List.map_append, List.map_cons, List.map_nil]
         exact (List.Perm.cons _ List.perm_append_comm).trans (List.Perm.swap _ _ _)
       · simp only [List.cons_append, List.nil_append, List.flatMap_append, List.flatMap_cons, List.flatMap_nil, List.append_nil, chksC]
         exact List.perm_append_comm
   · go_wp2
     go_ret
     obtain rfl : j = n := by omega
     have S_9 := S_1.out
     rw [Nat.sub_self, show zerosC 0 = [] from rfl, List.append_nil] at S_9
     have hl : ms.take j = ms := by rw [List.take_of_length_le (by rw [HL.out]; exact Nat.le_refl _)]
     exact ⟨w.heap.size, ys, by rw [HL.out]; rfl, by rw [← hl]; exact HK.out, HS.out, S_9⟩
end Go.Proofs.YtaboodioabopnaaGreat
