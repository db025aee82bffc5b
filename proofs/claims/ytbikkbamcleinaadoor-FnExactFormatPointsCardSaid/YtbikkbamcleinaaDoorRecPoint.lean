/- Records: Point: the laws' helpers. Conditions: none. -/
import Derived.Test.YtbikkbamcleinaaDoorRec
import Derived.Test.YtbikkbamcleinaaDoorOpenL
namespace Go.Proofs.YtbikkbamcleinaaDoor
open Go.ChangeShapes Go.WideShapes Go.ChangeAt Go.RowKit Go.Joins Go.Deep Nt Fr
set_option linter.unusedVariables false

set_option maxRecDepth 100000 in
set_option maxHeartbeats 4000000 in
theorem szPointS_any (A : Option Addr) (n c : Nat) (zs : List Rc) (k : Int) (w : World) (h0 : 0 ≤ k) (h1 : k ≤ 1048576) (hA : RRow 6 0 2 w A n zs) (hn : n ≤ 9223372036854775807) :
    Calls Tryd.prog 4 #[.slice A n c, .int .i64 k] w fun e w' => e = .returned (.int .i64 (szOf k (n + lensR zs))) ∧ Below w.heap.size w w' := by
  have HA := Lib.hid hA
  clear hA
  by_cases h : k < n
  · rw [szOf_neg (show k < ((n + lensR zs : Nat) : Int) by omega)]
    go_enter Tryd.func4, Tryd.ntmps4
    go_wp2
    go_ret
    exact ⟨rfl, Below.refl _ _⟩
  · go_enter Tryd.func4, Tryd.ntmps4
    go_wp2
    go_loopw [5, 1] (fun i l wr => ∃ (j : Nat) (m : Int), j ≤ n ∧ i = .int .i64 j ∧ l = .int .i64 m ∧ m = k - n - (lensR (zs.take j) : Int) ∧ 0 ≤ m ∧ Below w.heap.size w wr) (fun i _ _ => n - (intOf i).toNat)
    case atStart => exact ⟨0, k - n, Nat.zero_le _, rfl, rfl, by simp [lensR], by omega, Below.refl _ _⟩
    case round =>
      obtain ⟨j, m, hj, rfl, rfl, hm, hm0, hb⟩ := hrel
      have HB := Lib.hid hb
      have HM := Lib.hid hm
      have hm1 : m ≤ 1048576 := by omega
      clear hb hm
      by_cases hlt : j < n
      · obtain ⟨g, o, z, rfl, hg, hz, hr, hs, hc⟩ := (HA.out.below HB.out).at_ hlt
        obtain ⟨ZP, z0, z1, ZQ, z2, z3, rfl⟩ := Rc.sh02 hs
        have e1 := lensR_take_succ hz
        have e2 := lensR_take_le zs (j + 1)
        have HR := Lib.hid hr
        have hlen : Rc.len ⟨[], [(ZP, z0, z1), (ZQ, z2, z3)]⟩ = ZP.len + ZQ.len := by simp [Rc.len, Rc.lens]; try omega
        rw [hlen] at e1
        clear hz hr hs hlen
        have c0 : wr.cell? ⟨g, o + j * 6, none⟩ = some (.bool ZP.s) := hc 0 _ rfl
        have c1 : wr.cell? ⟨g, o + j * 6 + 1, none⟩ = some (z0) := hc 1 _ rfl
        have c2 : wr.cell? ⟨g, o + j * 6 + 2, none⟩ = some (z1) := hc 2 _ rfl
        have c3 : wr.cell? ⟨g, o + j * 6 + 3, none⟩ = some (.bool ZQ.s) := hc 3 _ rfl
        have c4 : wr.cell? ⟨g, o + j * 6 + 4, none⟩ = some (z2) := hc 4 _ rfl
        have c5 : wr.cell? ⟨g, o + j * 6 + 5, none⟩ = some (z3) := hc 5 _ rfl
        clear hc
        go_wp2_with fail
        refine (szPoint_f ZP ZQ z0 z1 z2 z3 _ m hm0 hm1 (HR.out (ZP, z0, z1) (by simp)) (HR.out (ZQ, z2, z3) (by simp))).mono ?_
        rintro e w2 ⟨rfl, hb⟩
        have HB2 := Lib.hid (HB.out.trans (hb.mono HB.out.size))
        clear hb c0 c1 c2 c3 c4 c5
        obtain ⟨zl, hzl⟩ : ∃ q : Nat, ZP.len + ZQ.len = q := ⟨_, rfl⟩
        rw [hzl] at e1 ⊢
        clear hzl
        by_cases hs : m < (zl : Int)
        · rw [szOf_neg hs]
          have HE := Lib.hid (show szOf k (n + lensR zs) = -1 from szOf_neg (by have := HM.out; omega))
          clear e1 e2 hs
          go_wp2
          go_ret
          exact ⟨ret_int HE.out.symm, HB2.out⟩
        · rw [szOf_pos hs]
          have HE := Lib.hid (show m - (zl : Int) = k - n - (lensR (zs.take (j + 1)) : Int) by have := HM.out; omega)
          obtain ⟨m2, hm2⟩ : ∃ q : Int, m - (zl : Int) = q := ⟨_, rfl⟩
          have hm3 : 0 ≤ m2 := by omega
          rw [hm2] at HE ⊢
          clear e1 e2 hs hm2
          go_wp2
          exact ⟨⟨j + 1, m2, by omega, by go_num, rfl, HE.out, hm3, HB2.out⟩, by simp [intOf]; omega⟩
      · obtain rfl : j = n := by omega
        have hl : zs.take j = zs := by rw [List.take_of_length_le (by rw [HA.out.len]; exact Nat.le_refl _)]
        have HE := Lib.hid (show m = szOf k (j + lensR zs) by rw [szOf_pos (by have := HM.out; rw [hl] at this; omega)]; have := HM.out; rw [hl] at this; omega)
        clear hl
        go_wp2
        go_ret
        exact ⟨ret_int HE.out, HB.out⟩
set_option maxRecDepth 100000 in
set_option maxHeartbeats 4000000 in
theorem eqPointS_same (A B : Option Addr) (n c d : Nat) (ys zs : List Rc) (w : World) (hA : RRow 6 0 2 w A n ys) (hB : RRow 6 0 2 w B n zs) (hlk : dats ys = dats zs) (hn : n ≤ 1048576) :
    Calls Tryd.prog 8 #[.slice A n c, .slice B n d] w fun e w' => e = .returned (.bool true) ∧ Below w.heap.size w w' := by
  have HA := Lib.hid hA
  have HB := Lib.hid hB
  have HK := Lib.hid hlk
  clear hA hB hlk
  go_enter Tryd.func8, Tryd.ntmps8
  go_wp2
  go_loopw [5] (fun i wr => ∃ k : Nat, k ≤ n ∧ i = .int .i64 k ∧ Below w.heap.size w wr) (fun i _ => n - (intOf i).toNat)
  case atStart => exact ⟨0, Nat.zero_le _, rfl, Below.refl _ _⟩
  case round =>
    obtain ⟨k, hk, rfl, hb⟩ := hrel
    have HW := Lib.hid hb
    clear hb
    by_cases hlt : k < n
    · obtain ⟨g, o, y, rfl, hg, hy, hry, hsy, hc⟩ := (HA.out.below HW.out).at_ hlt
      obtain ⟨g', o', z, rfl, hg', hz, hrz, hsz, hd⟩ := (HB.out.below HW.out).at_ hlt
      have hl := dats_at HK.out hy hz
      obtain ⟨YP, y0, y1, YQ, y2, y3, rfl⟩ := Rc.sh02 hsy
      obtain ⟨ZP, z0, z1, ZQ, z2, z3, rfl⟩ := Rc.sh02 hsz
      simp only [Rc.dat, List.map_cons, List.map_nil, Prod.mk.injEq, List.cons.injEq, and_true, true_and] at hl
      obtain ⟨rfl, rfl⟩ := hl
      have HRY := Lib.hid hry
      have HRZ := Lib.hid hrz
      have hk0 : (0 : Int) ≤ (k : Int) := by omega
      have hk1 : (k : Int) < (n : Int) := by omega
      have c0 : wr.cell? ⟨g, o + k * 6, none⟩ = some (.bool YP.s) := hc 0 _ rfl
      have c1 : wr.cell? ⟨g, o + k * 6 + 1, none⟩ = some (y0) := hc 1 _ rfl
      have c2 : wr.cell? ⟨g, o + k * 6 + 2, none⟩ = some (y1) := hc 2 _ rfl
      have c3 : wr.cell? ⟨g, o + k * 6 + 3, none⟩ = some (.bool YQ.s) := hc 3 _ rfl
      have c4 : wr.cell? ⟨g, o + k * 6 + 4, none⟩ = some (y2) := hc 4 _ rfl
      have c5 : wr.cell? ⟨g, o + k * 6 + 5, none⟩ = some (y3) := hc 5 _ rfl
      have d0 : wr.cell? ⟨g', o' + k * 6, none⟩ = some (.bool YP.s) := hd 0 _ rfl
      have d1 : wr.cell? ⟨g', o' + k * 6 + 1, none⟩ = some (z0) := hd 1 _ rfl
      have d2 : wr.cell? ⟨g', o' + k * 6 + 2, none⟩ = some (z1) := hd 2 _ rfl
      have d3 : wr.cell? ⟨g', o' + k * 6 + 3, none⟩ = some (.bool YQ.s) := hd 3 _ rfl
      have d4 : wr.cell? ⟨g', o' + k * 6 + 4, none⟩ = some (z2) := hd 4 _ rfl
      have d5 : wr.cell? ⟨g', o' + k * 6 + 5, none⟩ = some (z3) := hd 5 _ rfl
      clear hc hd hry hrz hy hz hsy hsz
      go_wp2
      go_region_held3 (fun w' => w'.cell? ⟨g, o + k * 6, none⟩ = some (.bool YP.s) ∧ w'.cell? ⟨g, o + k * 6 + 1, none⟩ = some (y0) ∧ w'.cell? ⟨g, o + k * 6 + 2, none⟩ = some (y1) ∧ w'.cell? ⟨g, o + k * 6 + 3, none⟩ = some (.bool YQ.s) ∧ w'.cell? ⟨g, o + k * 6 + 4, none⟩ = some (y2) ∧ w'.cell? ⟨g, o + k * 6 + 5, none⟩ = some (y3) ∧ w'.cell? ⟨g', o' + k * 6, none⟩ = some (.bool YP.s) ∧ w'.cell? ⟨g', o' + k * 6 + 1, none⟩ = some (z0) ∧ w'.cell? ⟨g', o' + k * 6 + 2, none⟩ = some (z1) ∧ w'.cell? ⟨g', o' + k * 6 + 3, none⟩ = some (.bool YQ.s) ∧ w'.cell? ⟨g', o' + k * 6 + 4, none⟩ = some (z2) ∧ w'.cell? ⟨g', o' + k * 6 + 5, none⟩ = some (z3)) (go_keep)
        (first
          | (go_at_call 19
             refine (eqPoint_f YP YQ y0 y1 y2 y3 z0 z1 z2 z3 _ (PtI.mk (HRY.out.below (Below.refl _ _).drew (YP, y0, y1) (by simp)) (HRY.out.below (Below.refl _ _).drew (YQ, y2, y3) (by simp))) (PtI.mk (HRZ.out.below (Below.refl _ _).drew (YP, z0, z1) (by simp)) (HRZ.out.below (Below.refl _ _).drew (YQ, z2, z3) (by simp)))).mono ?_
             rintro e w2 ⟨rfl, hb⟩
             have HW2 := Lib.hid (HW.out.drew.trans (hb.mono HW.out.drew.size))
             have ec0 := (hb.cell (p := ⟨g, o + k * 6, none⟩) hg).trans c0
             have ec1 := (hb.cell (p := ⟨g, o + k * 6 + 1, none⟩) hg).trans c1
             have ec2 := (hb.cell (p := ⟨g, o + k * 6 + 2, none⟩) hg).trans c2
             have ec3 := (hb.cell (p := ⟨g, o + k * 6 + 3, none⟩) hg).trans c3
             have ec4 := (hb.cell (p := ⟨g, o + k * 6 + 4, none⟩) hg).trans c4
             have ec5 := (hb.cell (p := ⟨g, o + k * 6 + 5, none⟩) hg).trans c5
             have ed0 := (hb.cell (p := ⟨g', o' + k * 6, none⟩) hg').trans d0
             have ed1 := (hb.cell (p := ⟨g', o' + k * 6 + 1, none⟩) hg').trans d1
             have ed2 := (hb.cell (p := ⟨g', o' + k * 6 + 2, none⟩) hg').trans d2
             have ed3 := (hb.cell (p := ⟨g', o' + k * 6 + 3, none⟩) hg').trans d3
             have ed4 := (hb.cell (p := ⟨g', o' + k * 6 + 4, none⟩) hg').trans d4
             have ed5 := (hb.cell (p := ⟨g', o' + k * 6 + 5, none⟩) hg').trans d5
             clear hb))
      all_goals go_wp2
      all_goals exact ⟨⟨k + 1, by omega, by go_num, HW2.out⟩, by simp [intOf]; omega⟩
    · go_wp2
      go_ret
      exact ⟨rfl, HW.out⟩
def zerosPoint : Nat → List Value
  | 0 => []
  | n + 1 => [.bool false, .slice none 0 0, .slice none 0 0, .bool false, .slice none 0 0, .slice none 0 0] ++ zerosPoint n
theorem zerosPoint_len (n : Nat) : (zerosPoint n).length = n * 6 := by
  induction n with
  | zero => rfl
  | succ n ih => simp [zerosPoint, ih]; omega
theorem infoPoint : (Tryd.prog.info? 42).map (fun i => (i.zero, i.size, i.bytes)) = some (some (.agg #[.bool false, .slice none 0 0, .slice none 0 0, .bool false, .slice none 0 0, .slice none 0 0]), 6, 112) := by kernel_rfl
theorem zerosPoint_at (n i : Nat) (h : i < n * 6) : (zerosPoint n)[i]? = some ((#[.bool false, .slice none 0 0, .slice none 0 0, .bool false, .slice none 0 0, .slice none 0 0] : Array Value)[i % 6]!) := by
  induction n generalizing i with
  | zero => omega
  | succ n ih =>
    by_cases hi : i < 6
    · rw [show zerosPoint (n + 1) = [.bool false, .slice none 0 0, .slice none 0 0, .bool false, .slice none 0 0, .slice none 0 0] ++ zerosPoint n from rfl, List.getElem?_append_left (by simpa using hi), Nat.mod_eq_of_lt hi]
      match i, hi with
      | 0, _ => rfl
      | 1, _ => rfl
      | 2, _ => rfl
      | 3, _ => rfl
      | 4, _ => rfl
      | 5, _ => rfl
    · rw [show zerosPoint (n + 1) = [.bool false, .slice none 0 0, .slice none 0 0, .bool false, .slice none 0 0, .slice none 0 0] ++ zerosPoint n from rfl, List.getElem?_append_right (by simpa using hi)]
      have := ih (i - 6) (by omega)
      rw [show ([.bool false, .slice none 0 0, .slice none 0 0, .bool false, .slice none 0 0, .slice none 0 0] : List Value).length = 6 from rfl, this, show (i - 6) % 6 = i % 6 by omega]
theorem madePoint (n : Nat) : (madeCells (Value.agg #[.bool false, .slice none 0 0, .slice none 0 0, .bool false, .slice none 0 0, .slice none 0 0]).cells (n * 6)).toList = zerosPoint n := by
  apply List.ext_getElem?
  intro i
  by_cases hi : i < n * 6
  · rw [zerosPoint_at n i hi]
    simp [madeCells, hi, Value.cells]
  · rw [List.getElem?_eq_none (by simp [madeCells]; omega), List.getElem?_eq_none (by rw [zerosPoint_len]; omega)]
theorem midPoint {X rest : List Value} {m : Nat} (hX : X.length = m) (i : Nat) {v : Value} (hv : ([.bool false, .slice none 0 0, .slice none 0 0, .bool false, .slice none 0 0, .slice none 0 0] : List Value)[i]? = some v) : (X ++ ([.bool false, .slice none 0 0, .slice none 0 0, .bool false, .slice none 0 0, .slice none 0 0] ++ rest))[m + i]? = some v := by
  subst hX
  have hi : i < 6 := by have := (List.getElem?_eq_some_iff.mp hv).1; simpa using this
  rw [List.getElem?_append_right (by omega), Nat.add_sub_cancel_left, List.getElem?_append_left (by simpa using hi)]; exact hv
/-- What toPointS leaves. -/
def OwnPointS (zs : List Rc) (w : World) (e : Ending) (w' : World) : Prop :=
  ∃ b ys, e = .returned (.slice (some ⟨b, 0, none⟩) zs.length zs.length) ∧ dats ys = dats zs ∧ (∀ y ∈ ys, y.sh 0 2) ∧ St w w' [(b, cellsR ys)] [rowsR ys]
set_option maxRecDepth 100000 in
set_option maxHeartbeats 4000000 in
theorem toPointS_any (A : Option Addr) (n c : Nat) (zs : List Rc) (w : World) (hA : RRow 6 0 2 w A n zs) (hn : n + lensR zs ≤ 1048576) :
    Calls Tryd.prog 6 #[.slice A n c] w (OwnPointS zs w) := by
  obtain ⟨i0, hi, hz0, hz1, hz2⟩ := info_parts infoPoint
  have HL := Lib.hid hA.len
  have HA := Lib.hid hA
  have HN := Lib.hid hn
  have hn' : n ≤ 1048576 := by omega
  clear hA hn
  go_enter Tryd.func6, Tryd.ntmps6
  go_wp2_with (at_make; refine wpList_make_full _ rfl _ _ _ rfl w.heap.size 42 i0 _ 6 Tryd.underlying25 hi hz0 hz1 .i64 .i64 _ _ n rfl rfl rfl rfl (by rw [hz2]; omega) (by unfold maxLen; omega) (Nat.le_refl _) ?_; intro w1 hown hgrow)
  rw [madePoint] at hown
  have hP : HeldL w1 w.heap.size (zerosPoint n) := by
    refine ⟨(hown.lt w.heap.size rfl).2, fun j v hj => ?_, fun j v hj => hown.frozenAt j⟩
    have hj' := (List.getElem?_eq_some_iff.mp hj).1
    rw [zerosPoint_len] at hj'
    rw [hown.cellAt j (by omega)]; exact hj
  have S_0 := Lib.hid (((St.start w).boxed ((Below.refl w.heap.size w).grown hgrow (Nat.le_refl _) (by simp)) hP (Nat.le_refl _)).nils 0)
  clear hown hgrow hP hi hz0 hz1 hz2
  go_wp2
  go_loopw [4] (fun i wr => ∃ (j : Nat) (ys : List Rc), j ≤ n ∧ i = .int .i64 j ∧ dats ys = dats (zs.take j) ∧ (∀ y ∈ ys, y.sh 0 2) ∧ St w wr [(w.heap.size, cellsR ys ++ zerosPoint (n - j))] [rowsR ys]) (fun i _ => n - (intOf i).toNat)
  case atStart => exact ⟨0, [], Nat.zero_le _, rfl, rfl, by simp, S_0.out⟩
  case round =>
    obtain ⟨j, ys, hj, rfl, hlk, hsh, hst⟩ := hrel
    have S_1 := Lib.hid hst
    have HY := Lib.hid (show ys.length = j by have h1 := congrArg List.length hlk; rw [dats_len, dats_len, List.length_take, HL.out] at h1; omega)
    have HK := Lib.hid hlk
    have HS := Lib.hid hsh
    clear hst hlk hsh
    by_cases hlt : j < n
    · obtain ⟨m, hm⟩ : ∃ m, n - j = m + 1 := ⟨n - j - 1, by omega⟩
      have hm' : n - (j + 1) = m := by omega
      rw [hm] at S_1
      have HM := Lib.hid hm'
      clear hm hm'
      obtain ⟨g, o, z, rfl, hg, hz, hr, hs, hc⟩ := (HA.out.below S_1.out.below).at_ hlt
      obtain ⟨ZP, z0, z1, ZQ, z2, z3, rfl⟩ := Rc.sh02 hs
      have HZ := Lib.hid hz
      have HR := Lib.hid hr
      have HZL := Lib.hid (show ZP.len + ZQ.len ≤ 1048576 by have h1 := lenR_le hz; have h2 := HN.out; simp only [Rc.len, Rc.lens] at h1; omega)
      clear hz hr hs
      have c0 : wr.cell? ⟨g, o + j * 6, none⟩ = some (.bool ZP.s) := hc 0 _ rfl
      have c1 : wr.cell? ⟨g, o + j * 6 + 1, none⟩ = some (z0) := hc 1 _ rfl
      have c2 : wr.cell? ⟨g, o + j * 6 + 2, none⟩ = some (z1) := hc 2 _ rfl
      have c3 : wr.cell? ⟨g, o + j * 6 + 3, none⟩ = some (.bool ZQ.s) := hc 3 _ rfl
      have c4 : wr.cell? ⟨g, o + j * 6 + 4, none⟩ = some (z2) := hc 4 _ rfl
      have c5 : wr.cell? ⟨g, o + j * 6 + 5, none⟩ = some (z3) := hc 5 _ rfl
      clear hc
      go_wp2_with fail
      refine (toPoint_f ZP ZQ z0 z1 z2 z3 _ (HR.out (ZP, z0, z1) (by simp)) (HR.out (ZQ, z2, z3) (by simp)) HZL.out).mono ?_
      rintro e w2 ⟨u0, u1, u2, u3, rfl, ho, hb⟩
      obtain ⟨A0, n0, k0, rfl⟩ := (ho.at_ 0 rfl).shape3
      obtain ⟨A1, n1, k1, rfl⟩ := (ho.at_ 1 rfl).shape3
      obtain ⟨A2, n2, k2, rfl⟩ := (ho.at_ 2 rfl).shape3
      obtain ⟨A3, n3, k3, rfl⟩ := (ho.at_ 3 rfl).shape3
      have S_2 := Lib.hid (S_1.out.rows ho hb)
      have HX := Lib.hid (show (cellsR ys).length = j * 6 by rw [cellsR_len (Sz.of HS.out rfl), HY.out])
      clear ho hb S_1 c0 c1 c2 c3 c4 c5
      have d0 : w2.cell? ⟨w.heap.size, j * 6, none⟩ = some (.bool false) := S_2.out.cell 0 (j * 6 + 0) rfl (midPoint HX.out 0 rfl)
      have f0 : w2.frozen? ⟨w.heap.size, j * 6, none⟩ = false := S_2.out.froz 0 (j * 6 + 0) rfl (midPoint HX.out 0 rfl)
      have d1 : w2.cell? ⟨w.heap.size, j * 6 + 1, none⟩ = some (.slice none 0 0) := S_2.out.cell 0 (j * 6 + 1) rfl (midPoint HX.out 1 rfl)
      have f1 : w2.frozen? ⟨w.heap.size, j * 6 + 1, none⟩ = false := S_2.out.froz 0 (j * 6 + 1) rfl (midPoint HX.out 1 rfl)
      have d2 : w2.cell? ⟨w.heap.size, j * 6 + 2, none⟩ = some (.slice none 0 0) := S_2.out.cell 0 (j * 6 + 2) rfl (midPoint HX.out 2 rfl)
      have f2 : w2.frozen? ⟨w.heap.size, j * 6 + 2, none⟩ = false := S_2.out.froz 0 (j * 6 + 2) rfl (midPoint HX.out 2 rfl)
      have d3 : w2.cell? ⟨w.heap.size, j * 6 + 3, none⟩ = some (.bool false) := S_2.out.cell 0 (j * 6 + 3) rfl (midPoint HX.out 3 rfl)
      have f3 : w2.frozen? ⟨w.heap.size, j * 6 + 3, none⟩ = false := S_2.out.froz 0 (j * 6 + 3) rfl (midPoint HX.out 3 rfl)
      have d4 : w2.cell? ⟨w.heap.size, j * 6 + 4, none⟩ = some (.slice none 0 0) := S_2.out.cell 0 (j * 6 + 4) rfl (midPoint HX.out 4 rfl)
      have f4 : w2.frozen? ⟨w.heap.size, j * 6 + 4, none⟩ = false := S_2.out.froz 0 (j * 6 + 4) rfl (midPoint HX.out 4 rfl)
      have d5 : w2.cell? ⟨w.heap.size, j * 6 + 5, none⟩ = some (.slice none 0 0) := S_2.out.cell 0 (j * 6 + 5) rfl (midPoint HX.out 5 rfl)
      have f5 : w2.frozen? ⟨w.heap.size, j * 6 + 5, none⟩ = false := S_2.out.froz 0 (j * 6 + 5) rfl (midPoint HX.out 5 rfl)
      go_wp2
      refine ⟨⟨j + 1, ys ++ [⟨[], [(ZP, (.slice A0 n0 k0), (.slice A1 n1 k1)), (ZQ, (.slice A2 n2 k2), (.slice A3 n3 k3))]⟩], by omega, by go_num, ?_, ?_, ?_⟩, by simp [intOf]; omega⟩
      · have hj := (List.getElem?_eq_some_iff.mp HZ.out)
        obtain ⟨hj1, hj2⟩ := hj
        rw [List.take_succ_eq_append_getElem hj1, dats_app', dats_app', HK.out, hj2]
        rfl
      · intro y hy
        rcases List.mem_append.mp hy with a | a
        · exact HS.out y a
        · obtain rfl := List.mem_singleton.mp a
          exact ⟨rfl, rfl⟩
      · have hX := HX.out
        have S_3 := S_2.out.join
        rw [show zerosPoint (m + 1) = [.bool false, .slice none 0 0, .slice none 0 0, .bool false, .slice none 0 0, .slice none 0 0] ++ zerosPoint m from rfl] at S_3
        have T := S_3.setSeg (k := 0) (us := [.bool ZP.s, (.slice A0 n0 k0), (.slice A1 n1 k1), .bool ZQ.s, (.slice A2 n2 k2), (.slice A3 n3 k3)]) (X := cellsR ys) (old := [.bool false, .slice none 0 0, .slice none 0 0, .bool false, .slice none 0 0, .slice none 0 0]) (rest := zerosPoint m) (m := j * 6) rfl hX rfl
        rw [HM.out]
        have E1 : (cellsR ys ++ ([.bool ZP.s, (.slice A0 n0 k0), (.slice A1 n1 k1), .bool ZQ.s, (.slice A2 n2 k2), (.slice A3 n3 k3)] ++ zerosPoint m)) = cellsR (ys ++ [⟨[], [(ZP, (.slice A0 n0 k0), (.slice A1 n1 k1)), (ZQ, (.slice A2 n2 k2), (.slice A3 n3 k3))]⟩]) ++ zerosPoint m := by simp [cellsR, Rc.cells, Rc.frc]
        have E2 : rowsR ys ++ [((.slice A0 n0 k0), ints ZP.xs), ((.slice A1 n1 k1), ints ZP.ys), ((.slice A2 n2 k2), ints ZQ.xs), ((.slice A3 n3 k3), ints ZQ.ys)] = rowsR (ys ++ [⟨[], [(ZP, (.slice A0 n0 k0), (.slice A1 n1 k1)), (ZQ, (.slice A2 n2 k2), (.slice A3 n3 k3))]⟩]) := by simp [rowsR, Rc.rows, Rc.frr]
        rw [← E1, ← E2]
        exact T
    · go_wp2
      go_ret
      obtain rfl : j = n := by omega
      have S_9 := S_1.out
      rw [Nat.sub_self, show zerosPoint 0 = [] from rfl, List.append_nil] at S_9
      have hl : zs.take j = zs := by rw [List.take_of_length_le (by rw [HL.out]; exact Nat.le_refl _)]
      exact ⟨w.heap.size, ys, by rw [HL.out]; rfl, by rw [← hl]; exact HK.out, HS.out, S_9⟩
theorem trod_fieldsPoint {H : Type} {enc : TypeId × Value → H} {Pg : Program} {w : World} {t : TypeId} {f0 f1 : Field} {fuel : Nat} {cs : List Value} {x : DataW H × List MemPlace} (ht : Pg.underlying t = some (.struct #[f0, f1])) (h : DataW.trod enc Pg w 0 (fun _ => true) true fuel t cs = some x) :
    ∃ y0 y1 n, DataW.trod enc Pg w 0 (fun _ => true) true n f0.type ((cs.drop f0.offset).take (Pg.cellsOf f0.type)) = some y0 ∧ DataW.trod enc Pg w 0 (fun _ => true) true n f1.type ((cs.drop f1.offset).take (Pg.cellsOf f1.type)) = some y1 := by
  obtain ⟨xs, n, _, rfl, hl, hlen, hf⟩ := DataW.trod_struct ht h
  match xs, hlen with
  | [y0, y1], _ => exact ⟨y0, y1, n, by simpa using hf 0 f0 rfl, by simpa using hf 1 f1 rfl⟩
def pointRcT (Pg : Program) (t tr : TypeId) : Prop :=
  RatT Pg tr ∧ ∃ f0 f1 : Field, Pg.underlying t = some (.struct #[f0, f1]) ∧ (f0.offset = 0 ∧ f1.offset = 3) ∧ (Pg.cellsOf tr = 3) ∧ (f0.type = tr ∧ f1.type = tr) ∧ (True) ∧ Pg.cellsOf t = 6
theorem pointRc_cells {H : Type} {enc : TypeId × Value → H} {Pg : Program} {w : World} {t tr : TypeId} {fuel : Nat} {c0 c1 c2 c3 c4 c5 : Value} {x : DataW H × List MemPlace} (hr : pointRcT Pg t tr) (h : DataW.trod enc Pg w 0 (fun _ => true) true fuel t [c0, c1, c2, c3, c4, c5] = some x) :
    ∃ z : Rc, [c0, c1, c2, c3, c4, c5] = z.cells ∧ z.rd w ∧ z.sh 0 2 := by
  obtain ⟨hr, f0, f1, hs, ⟨o0, o1⟩, kr, ⟨t0, t1⟩, _, _⟩ := hr
  obtain ⟨y0, y1, n, g0, g1⟩ := trod_fieldsPoint hs h
  rw [t0] at g0
  rw [t1] at g1
  have g0' : DataW.trod enc Pg w 0 (fun _ => true) true n tr [c0, c1, c2] = some y0 := by simpa [o0, kr] using g0
  obtain ⟨P, rfl, hP⟩ := rat_cells hr g0'
  have g1' : DataW.trod enc Pg w 0 (fun _ => true) true n tr [c3, c4, c5] = some y1 := by simpa [o1, kr] using g1
  obtain ⟨Q, rfl, hQ⟩ := rat_cells hr g1'
  refine ⟨⟨[], [(P, c1, c2), (Q, c4, c5)]⟩, rfl, ?_, ⟨rfl, rfl⟩⟩
  intro f hf
  simp only [List.mem_cons, List.not_mem_nil, or_false] at hf
  rcases hf with rfl | rfl
  · exact hP
  · exact hQ
theorem isPointS_of {H : Type} {enc : TypeId × Value → H} {Pg : Program} {w : World} {t e tr : TypeId} {a : Option Addr} {len cap : Nat} {d : DataW H} {p : List MemPlace} (hr : pointRcT Pg e tr) (ht : Pg.underlying t = some (.slice e))
    (h : DataW.Trod enc Pg w 0 (fun _ => true) true t (.slice a len cap) d p) : ∃ zs, RRow 6 0 2 w a len zs ∧ len ≤ cap ∧ cap ≤ maxLen := by
  have hC : Pg.cellsOf e = 6 := by obtain ⟨_, _, _, _, _, _, _, _, hC⟩ := hr; exact hC
  obtain ⟨fuel, hf⟩ := h
  rcases open_slice ht hf with ⟨hcs, _⟩ | ⟨x, l, c, m, n, D, Pl, hcs, _, hl, hm, hme, _, hall⟩
  · simp [Value.cells] at hcs
    obtain ⟨rfl, rfl, rfl⟩ := hcs
    exact ⟨[], RRow.nil, Nat.le_refl _, by unfold maxLen; omega⟩
  · simp [Value.cells] at hcs
    obtain ⟨rfl, rfl, rfl⟩ := hcs
    have hmc : m = cap := by simpa using hme
    subst hmc
    have key : ∀ i, i < len → ∃ z : Rc, z.rd w ∧ z.sh 0 2 ∧ ∀ (j : Nat) (v : Value), z.cells[j]? = some v → w.cell? (x.add (i * 6 + j)) = some v := by
      intro i hi
      obtain ⟨cs', hc, ht'⟩ := hall i (by omega)
      rw [hC] at hc
      obtain ⟨_, hlen, hcell⟩ := World.cells?_some hc
      obtain ⟨c0, c1, c2, c3, c4, c5, rfl⟩ : ∃ c0 c1 c2 c3 c4 c5, cs' = [c0, c1, c2, c3, c4, c5] := by
        match cs', hlen with
        | [c0, c1, c2, c3, c4, c5], _ => exact ⟨c0, c1, c2, c3, c4, c5, rfl⟩
      obtain ⟨z, hz, hrd, hsh⟩ := pointRc_cells hr ht'
      have hadd : ∀ (y : Addr) (i j : Nat), (y.add i).add j = y.add (i + j) := by
        intro y i j
        unfold Addr.add
        by_cases hi : i = 0 <;> by_cases hj : j = 0 <;> simp [hi, hj, Nat.add_assoc]
      refine ⟨z, hrd, hsh, fun j v hj => ?_⟩
      rw [← hz] at hj
      have hj' : j < 6 := by have := (List.getElem?_eq_some_iff.mp hj).1; simpa using this
      have b := hcell j (by omega)
      rw [hadd] at b
      rw [b]
      simpa using hj
    have hF : ∃ F : Nat → Rc, ∀ i, i < len → (F i).rd w ∧ (F i).sh 0 2 ∧ ∀ (j : Nat) (v : Value), (F i).cells[j]? = some v → w.cell? (x.add (i * 6 + j)) = some v := by
      refine ⟨fun i => if hi : i < len then Classical.choose (key i hi) else ⟨[], []⟩, fun i hi => ?_⟩
      simp only [dif_pos hi]
      exact Classical.choose_spec (key i hi)
    obtain ⟨F, hF⟩ := hF
    refine ⟨(List.range len).map F, ⟨by simp, fun hn => ?_, fun z hz => ?_, fun z hz => ?_⟩, hl, hm⟩
    · obtain ⟨b, off, spot⟩ := x
      have hlt0 : 0 < (F 0).cells.length := by rw [Rc.cells_len (hF 0 hn).2.1]; decide
      have z0 := (hF 0 hn).2.2 0 _ (List.getElem?_eq_getElem hlt0)
      rw [Nat.zero_mul, Nat.zero_add] at z0
      have hspot : spot = none := by simpa [Addr.add] using World.cell?_spot z0
      subst hspot
      refine ⟨b, off, rfl, World.block_lt_of_cell? w _ z0, fun k hk j v hj => ?_⟩
      have hk' : k < len := by simpa using hk
      have e : ((List.range len).map F)[k] = F k := by simp
      rw [e] at hj
      have := (hF k hk').2.2 j v hj
      rw [add_plainK] at this
      rw [Nat.add_assoc]; exact this
    · obtain ⟨i, hi, rfl⟩ := List.mem_map.mp hz
      exact (hF i (List.mem_range.mp hi)).1
    · obtain ⟨i, hi, rfl⟩ := List.mem_map.mp hz
      exact (hF i (List.mem_range.mp hi)).2.1
theorem pointRcT_p : pointRcT Tryd.prog 36 34 :=
  ⟨ratT, _, _, Tryd.underlying36, ⟨rfl, rfl⟩, by kernel_rfl, ⟨rfl, rfl⟩, trivial, by kernel_rfl⟩
end Go.Proofs.YtbikkbamcleinaaDoor
