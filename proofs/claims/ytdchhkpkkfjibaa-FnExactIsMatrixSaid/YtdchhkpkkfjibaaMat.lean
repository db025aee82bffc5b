/- Slices of slices of fractions: how they read; the laws' helpers. Conditions: none. -/
import Derived.Test.YtdchhkpkkfjibaaRecRat
namespace Go.Proofs.Ytdchhkpkkfjibaa
open Go.ChangeShapes Go.WideShapes Go.ChangeAt Go.RowKit Go.Joins Go.Deep Nt Fr
set_option linter.unusedVariables false

/-- A row as it lies in memory. -/
structure Mr where
  A : Option Addr
  n : Nat
  c : Nat
  zs : List Rc
def Mr.val (m : Mr) : Value := .slice m.A m.n m.c
def Mr.rd (w : World) (m : Mr) : Prop := RRow 3 0 1 w m.A m.n m.zs ∧ m.n ≤ m.c ∧ m.c ≤ maxLen
/-- The slice reads as these rows. -/
structure MRow (w : World) (A : Option Addr) (n : Nat) (ms : List Mr) : Prop where
  len : ms.length = n
  cell : 0 < n → ∃ g o, A = some ⟨g, o, none⟩ ∧ g < w.heap.size ∧ ∀ (k : Nat) (m : Mr), ms[k]? = some m → w.cell? ⟨g, o + k, none⟩ = some m.val
  rd : ∀ m ∈ ms, m.rd w
section
variable {w w' : World} {A : Option Addr} {n : Nat} {ms : List Mr}
theorem Mr.rd.below {m : Mr} (h : m.rd w) (hb : Below w.heap.size w w') : m.rd w' := ⟨h.1.below hb, h.2⟩
theorem MRow.below (h : MRow w A n ms) (hb : Below w.heap.size w w') : MRow w' A n ms := by
  refine ⟨h.len, fun hn => ?_, fun z hz => (h.rd z hz).below hb⟩
  obtain ⟨g, o, rfl, hg, hc⟩ := h.cell hn
  exact ⟨g, o, rfl, Nat.lt_of_lt_of_le hg hb.size, fun k m hk => (hb.cell (p := ⟨g, o + k, none⟩) hg).trans (hc k m hk)⟩
theorem MRow.at_ (h : MRow w A n ms) {k : Nat} (hk : k < n) : ∃ g o m, A = some ⟨g, o, none⟩ ∧ g < w.heap.size ∧ ms[k]? = some m ∧ m.rd w ∧ w.cell? ⟨g, o + k, none⟩ = some m.val := by
  obtain ⟨g, o, e, hg, hc⟩ := h.cell (by omega)
  have hk' : k < ms.length := by rw [h.len]; exact hk
  exact ⟨g, o, ms[k], e, hg, List.getElem?_eq_getElem hk', h.rd _ (List.getElem_mem hk'), hc k _ (List.getElem?_eq_getElem hk')⟩
theorem MRow.nil : MRow w none 0 [] := ⟨rfl, fun h => absurd h (Nat.lt_irrefl 0), by simp⟩
end
/-- What the rows say, wherever they lie. -/
abbrev Dm := List (List (List Int × List Fr))
def datm (ms : List Mr) : Dm := ms.map fun m => dats m.zs
theorem datm_len (ms : List Mr) : (datm ms).length = ms.length := by simp [datm]
theorem datm_at {ys zs : List Mr} (h : datm ys = datm zs) {i : Nat} {y z : Mr} (hy : ys[i]? = some y) (hz : zs[i]? = some z) : dats y.zs = dats z.zs := by
  have h1 : (datm ys)[i]? = some (dats y.zs) := by simp [datm, hy]
  have h2 : (datm zs)[i]? = some (dats z.zs) := by simp [datm, hz]
  rw [h, h2] at h1
  exact (Option.some.inj h1).symm
def Mr.len (m : Mr) : Nat := m.n + lensR m.zs
def lensM : List Mr → Nat
  | [] => 0
  | m :: r => m.len + lensM r
theorem lensM_app (a b : List Mr) : lensM (a ++ b) = lensM a + lensM b := by
  induction a with
  | nil => simp [lensM]
  | cons z r ih => simp [lensM, ih]; omega
theorem lensM_take_succ {zs : List Mr} {k : Nat} {z : Mr} (h : zs[k]? = some z) : lensM (zs.take (k + 1)) = lensM (zs.take k) + z.len := by
  obtain ⟨hk, e⟩ := List.getElem?_eq_some_iff.mp h
  rw [List.take_succ_eq_append_getElem hk, lensM_app, e]; simp [lensM]
theorem lensM_take_le (zs : List Mr) (k : Nat) : lensM (zs.take k) ≤ lensM zs := by
  have := lensM_app (zs.take k) (zs.drop k)
  rw [List.take_append_drop] at this; omega
theorem lenM_le {zs : List Mr} {k : Nat} {z : Mr} (h : zs[k]? = some z) : z.len ≤ lensM zs := by
  have h1 := lensM_take_succ h
  have h2 := lensM_take_le zs (k + 1)
  omega
set_option maxRecDepth 100000 in
set_option maxHeartbeats 4000000 in
theorem szRatSS_any (A : Option Addr) (n c : Nat) (ms : List Mr) (k : Int) (w : World) (h0 : 0 ≤ k) (h1 : k ≤ 1048576) (hA : MRow w A n ms) (hn : n ≤ 9223372036854775807) :
    Calls Try.prog 4 #[.slice A n c, .int .i64 k] w fun e w' => e = .returned (.int .i64 (szOf k (n + lensM ms))) ∧ Below w.heap.size w w' := by
  have HA := Lib.hid hA
  clear hA
  by_cases h : k < n
  · rw [szOf_neg (show k < ((n + lensM ms : Nat) : Int) by omega)]
    go_enter Try.func4, Try.ntmps4
    go_wp2
    go_ret
    exact ⟨rfl, Below.refl _ _⟩
  · go_enter Try.func4, Try.ntmps4
    go_wp2
    go_loopw [5, 1] (fun i l wr => ∃ (j : Nat) (m : Int), j ≤ n ∧ i = .int .i64 j ∧ l = .int .i64 m ∧ m = k - n - (lensM (ms.take j) : Int) ∧ 0 ≤ m ∧ Below w.heap.size w wr) (fun i _ _ => n - (intOf i).toNat)
    case atStart => exact ⟨0, k - n, Nat.zero_le _, rfl, rfl, by simp [lensM], by omega, Below.refl _ _⟩
    case round =>
      obtain ⟨j, m, hj, rfl, rfl, hm, hm0, hb⟩ := hrel
      have HB := Lib.hid hb
      have HM := Lib.hid hm
      have hm1 : m ≤ 1048576 := by omega
      clear hb hm
      by_cases hlt : j < n
      · obtain ⟨g, o, z, rfl, hg, hz, hr, hc⟩ := (HA.out.below HB.out).at_ hlt
        obtain ⟨B, p, q, zs⟩ := z
        have e1 := lensM_take_succ hz
        have e2 := lensM_take_le ms (j + 1)
        have HR := Lib.hid hr
        have c0 : wr.cell? ⟨g, o + j, none⟩ = some (.slice B p q) := hc
        simp only [Mr.len] at e1
        clear hz hr hc
        go_wp2_with fail
        refine (szRatS_any B p q zs m _ hm0 hm1 HR.out.1 (by have h1 := HR.out.2.1; have h2 := HR.out.2.2; simp only at h1 h2; unfold maxLen at h2; omega)).mono ?_
        rintro e w2 ⟨rfl, hb⟩
        have HB2 := Lib.hid (HB.out.trans (hb.mono HB.out.size))
        clear hb c0
        obtain ⟨zl, hzl⟩ : ∃ q : Nat, p + lensR zs = q := ⟨_, rfl⟩
        rw [hzl] at e1 ⊢
        clear hzl
        by_cases hs : m < (zl : Int)
        · rw [szOf_neg hs]
          have HE := Lib.hid (show szOf k (n + lensM ms) = -1 from szOf_neg (by have := HM.out; omega))
          clear e1 e2 hs
          go_wp2
          go_ret
          exact ⟨ret_int HE.out.symm, HB2.out⟩
        · rw [szOf_pos hs]
          have HE := Lib.hid (show m - (zl : Int) = k - n - (lensM (ms.take (j + 1)) : Int) by have := HM.out; omega)
          obtain ⟨m2, hm2⟩ : ∃ q : Int, m - (zl : Int) = q := ⟨_, rfl⟩
          have hm3 : 0 ≤ m2 := by omega
          rw [hm2] at HE ⊢
          clear e1 e2 hs hm2
          go_wp2
          exact ⟨⟨j + 1, m2, by omega, by go_num, rfl, HE.out, hm3, HB2.out⟩, by simp [intOf]; omega⟩
      · obtain rfl : j = n := by omega
        have hl : ms.take j = ms := by rw [List.take_of_length_le (by rw [HA.out.len]; exact Nat.le_refl _)]
        have HE := Lib.hid (show m = szOf k (j + lensM ms) by rw [szOf_pos (by have := HM.out; rw [hl] at this; omega)]; have := HM.out; rw [hl] at this; omega)
        clear hl
        go_wp2
        go_ret
        exact ⟨ret_int HE.out, HB.out⟩
set_option maxRecDepth 100000 in
set_option maxHeartbeats 4000000 in
theorem eqRatSS_same (A B : Option Addr) (n c d : Nat) (ys zs : List Mr) (w : World) (hA : MRow w A n ys) (hB : MRow w B n zs) (hlk : datm ys = datm zs) (hn : n ≤ 1048576) (hr : ∀ y ∈ ys, y.n ≤ 1048576) :
    Calls Try.prog 8 #[.slice A n c, .slice B n d] w fun e w' => e = .returned (.bool true) ∧ Below w.heap.size w w' := by
  have HA := Lib.hid hA
  have HB := Lib.hid hB
  have HK := Lib.hid hlk
  have HN := Lib.hid hr
  clear hA hB hlk hr
  go_enter Try.func8, Try.ntmps8
  go_wp2
  go_loopw [5] (fun i wr => ∃ k : Nat, k ≤ n ∧ i = .int .i64 k ∧ Below w.heap.size w wr) (fun i _ => n - (intOf i).toNat)
  case atStart => exact ⟨0, Nat.zero_le _, rfl, Below.refl _ _⟩
  case round =>
    obtain ⟨k, hk, rfl, hb⟩ := hrel
    have HW := Lib.hid hb
    clear hb
    by_cases hlt : k < n
    · obtain ⟨g, o, y, rfl, hg, hy, hry, hc⟩ := (HA.out.below HW.out).at_ hlt
      obtain ⟨g', o', z, rfl, hg', hz, hrz, hd⟩ := (HB.out.below HW.out).at_ hlt
      have hl := datm_at HK.out hy hz
      have hln := HN.out y (List.mem_of_getElem? hy)
      obtain ⟨Y, p, q, us⟩ := y
      obtain ⟨Z, p', q', vs⟩ := z
      obtain rfl : p = p' := by
        have h1 := congrArg List.length hl
        rw [dats_len, dats_len] at h1
        have h2 := hry.1.len
        have h3 := hrz.1.len
        simp only at h1 h2 h3
        omega
      have HRY := Lib.hid (hry.1.below (Below.refl _ _).drew)
      have HRZ := Lib.hid (hrz.1.below (Below.refl _ _).drew)
      have HDL := Lib.hid hl
      have HP := Lib.hid (show p ≤ 1048576 from hln)
      have hk0 : (0 : Int) ≤ (k : Int) := by omega
      have hk1 : (k : Int) < (n : Int) := by omega
      have c0 : wr.cell? ⟨g, o + k, none⟩ = some (.slice Y p q) := hc
      have d0 : wr.cell? ⟨g', o' + k, none⟩ = some (.slice Z p q') := hd
      clear hc hd hry hrz hy hz hl hln
      go_wp2
      go_region_held3 (fun w' => w'.cell? ⟨g, o + k, none⟩ = some (.slice Y p q) ∧ w'.cell? ⟨g', o' + k, none⟩ = some (.slice Z p q')) (go_keep)
        (first
          | (go_at_call 13
             refine (eqRatS_same Y Z p q q' us vs _ HRY.out HRZ.out HDL.out HP.out).mono ?_
             rintro e w2 ⟨rfl, hb⟩
             have HW2 := Lib.hid (HW.out.drew.trans (hb.mono HW.out.drew.size))
             have ec0 := (hb.cell (p := ⟨g, o + k, none⟩) hg).trans c0
             have ed0 := (hb.cell (p := ⟨g', o' + k, none⟩) hg').trans d0
             clear hb))
      all_goals go_wp2
      all_goals exact ⟨⟨k + 1, by omega, by go_num, HW2.out⟩, by simp [intOf]; omega⟩
    · go_wp2
      go_ret
      exact ⟨rfl, HW.out⟩
def zerosM (n : Nat) : List Value := List.replicate n (.slice none 0 0)
theorem infoRatSS : (Try.prog.info? 31).map (fun i => (i.zero, i.size, i.bytes)) = some (some (.slice none 0 0), 1, 24) := by kernel_rfl
theorem madeM (n : Nat) : (madeCells (Value.slice none 0 0).cells (n * 1)).toList = zerosM n := by
  apply List.ext_getElem?
  intro i
  by_cases hi : i < n
  · simp [madeCells, zerosM, hi, Value.cells, Nat.mod_one]
  · rw [List.getElem?_eq_none (by simp [madeCells]; omega), List.getElem?_eq_none (by simp [zerosM]; omega)]
/-- A row of one's own: its block, what it holds. -/
abbrev Yr := Nat × List Rc
def Yr.mr (y : Yr) : Mr := ⟨some ⟨y.1, 0, none⟩, y.2.length, y.2.length, y.2⟩
def Yr.val (y : Yr) : Value := .slice (some ⟨y.1, 0, none⟩) y.2.length y.2.length
def blkY (y : Yr) : Nat × List Value := (y.1, cellsR y.2)
def chkY (y : Yr) : Chunk := rowsR y.2
def datY (ys : List Yr) : Dm := ys.map fun y => dats y.2
def shY (ys : List Yr) : Prop := ∀ y ∈ ys, ∀ z ∈ y.2, z.sh 0 1
theorem St.mrow {w0 w : World} {bs : List (Nat × List Value)} {cs : List Chunk} {b : Nat} {ys : List Yr} (h : St w0 w bs cs) (hb : (b, ys.map Yr.val) ∈ bs) (hbs : ∀ y ∈ ys, blkY y ∈ bs) (hcs : ∀ y ∈ ys, chkY y ∈ cs) (hsh : shY ys) (hmx : ∀ y ∈ ys, y.2.length ≤ maxLen) : MRow w (some ⟨b, 0, none⟩) ys.length (ys.map Yr.mr) := by
  refine ⟨by simp, fun hn => ⟨b, 0, rfl, (h.box _ hb).1.lt, fun k m hk => ?_⟩, ?_⟩
  · rw [Nat.zero_add]
    refine (h.box _ hb).1.cell k _ ?_
    rw [List.getElem?_map] at hk ⊢
    cases e : ys[k]? with
    | none => rw [e] at hk; simp at hk
    | some y => rw [e] at hk; simp at hk; subst hk; rfl
  · intro m hm
    obtain ⟨y, hy, rfl⟩ := List.mem_map.mp hm
    have hO := h.row _ (hcs y hy)
    have hB := h.box _ (hbs y hy)
    refine ⟨⟨rfl, fun _ => ⟨y.1, 0, rfl, hB.1.lt, fun k hk j v hj => ?_⟩, fun z hz => (rowsR_ra hO z hz).rd, hsh y hy⟩, Nat.le_refl _, hmx y hy⟩
    rw [Nat.zero_add]
    exact hB.1.cell _ _ (cellsR_at (Sz.of (hsh y hy) rfl) (List.getElem?_eq_getElem hk) j hj)
/-- What toRatSS leaves. -/
def OwnMx (ms : List Mr) (w : World) (e : Ending) (w' : World) : Prop :=
  ∃ b ys, e = .returned (.slice (some ⟨b, 0, none⟩) ms.length ms.length) ∧ datY ys = datm ms ∧ shY ys ∧ St w w' ((b, ys.map Yr.val) :: ys.map blkY) (ys.map chkY)
set_option maxRecDepth 100000 in
set_option maxHeartbeats 4000000 in
theorem toRatSS_any (A : Option Addr) (n c : Nat) (ms : List Mr) (w : World) (hA : MRow w A n ms) (hn : n + lensM ms ≤ 1048576) :
    Calls Try.prog 6 #[.slice A n c] w (OwnMx ms w) := by
  obtain ⟨i0, hi, hz0, hz1, hz2⟩ := info_parts infoRatSS
  have HL := Lib.hid hA.len
  have HA := Lib.hid hA
  have HN := Lib.hid hn
  have hn' : n ≤ 1048576 := by omega
  clear hA hn
  go_enter Try.func6, Try.ntmps6
  go_wp2_with (at_make; refine wpList_make_full _ rfl _ _ _ rfl w.heap.size 31 i0 _ 1 Try.underlying25 hi hz0 hz1 .i64 .i64 _ _ n rfl rfl rfl rfl (by rw [hz2]; omega) (by unfold maxLen; omega) (Nat.le_refl _) ?_; intro w1 hown hgrow)
  rw [madeM] at hown
  have hP : HeldL w1 w.heap.size (zerosM n) := by
    refine ⟨(hown.lt w.heap.size rfl).2, fun j v hj => ?_, fun j v hj => hown.frozenAt j⟩
    have hj' := (List.getElem?_eq_some_iff.mp hj).1
    simp only [zerosM, List.length_replicate] at hj'
    rw [hown.cellAt j (by omega)]; exact hj
  have S_0 := Lib.hid ((St.start w).boxed ((Below.refl w.heap.size w).grown hgrow (Nat.le_refl _) (by simp)) hP (Nat.le_refl _))
  clear hown hgrow hP hi hz0 hz1 hz2
  go_wp2
  go_loopw [4] (fun i wr => ∃ (j : Nat) (ys : List Yr), j ≤ n ∧ i = .int .i64 j ∧ datY ys = datm (ms.take j) ∧ shY ys ∧ St w wr ((w.heap.size, ys.map Yr.val ++ zerosM (n - j)) :: ys.map blkY) (ys.map chkY)) (fun i _ => n - (intOf i).toNat)
  case atStart => exact ⟨0, [], Nat.zero_le _, rfl, rfl, by simp [shY], S_0.out⟩
  case round =>
    obtain ⟨j, ys, hj, rfl, hlk, hsh, hst⟩ := hrel
    have S_1 := Lib.hid hst
    have HY := Lib.hid (show ys.length = j by have h1 := congrArg List.length hlk; rw [datm_len, List.length_take, HL.out] at h1; simp only [datY, List.length_map] at h1; omega)
    have HK := Lib.hid hlk
    have HS := Lib.hid hsh
    clear hst hlk hsh
    by_cases hlt : j < n
    · obtain ⟨m, hm⟩ : ∃ m, n - j = m + 1 := ⟨n - j - 1, by omega⟩
      have hm' : n - (j + 1) = m := by omega
      rw [hm, show zerosM (m + 1) = .slice none 0 0 :: zerosM m from rfl] at S_1
      have HM := Lib.hid hm'
      clear hm hm'
      obtain ⟨g, o, z, rfl, hg, hz, hr, hc⟩ := (HA.out.below S_1.out.below).at_ hlt
      obtain ⟨B, p, q, zs⟩ := z
      have HZ := Lib.hid hz
      have HR := Lib.hid hr
      have HZL := Lib.hid (show p + lensR zs ≤ 1048576 by have h1 := lenM_le hz; have h2 := HN.out; simp only [Mr.len] at h1; omega)
      have c0 : wr.cell? ⟨g, o + j, none⟩ = some (.slice B p q) := hc
      clear hz hr hc
      go_wp2_with fail
      refine (toRatS_any B p q zs _ HR.out.1 HZL.out).mono ?_
      rintro e w2 ⟨b2, us, rfl, hd, hs2, h2⟩
      have S_2 := Lib.hid (S_1.out.over h2)
      have HUL := Lib.hid (show us.length = zs.length by have h1 := congrArg List.length hd; rw [dats_len, dats_len] at h1; exact h1)
      have HD := Lib.hid hd
      have HS2 := Lib.hid hs2
      clear h2 hd hs2 S_1 c0
      have hX : (ys.map Yr.val).length = j := by rw [List.length_map, HY.out]
      have d0 : w2.cell? ⟨w.heap.size, j, none⟩ = some (.slice none 0 0) := S_2.out.cell 1 j rfl (by rw [List.getElem?_append_right (by omega), hX, Nat.sub_self]; rfl)
      have f0 : w2.frozen? ⟨w.heap.size, j, none⟩ = false := S_2.out.froz 1 j (v := .slice none 0 0) rfl (by rw [List.getElem?_append_right (by omega), hX, Nat.sub_self]; rfl)
      have HX := Lib.hid hX
      clear hX
      go_wp2
      refine ⟨⟨j + 1, ys ++ [(b2, us)], by omega, by go_num, ?_, ?_, ?_⟩, by simp [intOf]; omega⟩
      · obtain ⟨hj1, hj2⟩ := List.getElem?_eq_some_iff.mp HZ.out
        rw [List.take_succ_eq_append_getElem hj1, hj2]
        have h1 := HK.out
        simp only [datY, datm, List.map_append, List.map_cons, List.map_nil] at h1 ⊢
        rw [h1, HD.out]
      · intro y hy
        rcases List.mem_append.mp hy with a | a
        · exact HS.out y a
        · obtain rfl := List.mem_singleton.mp a
          exact HS2.out
      · have T := S_2.out.set 1 j (.slice (some ⟨b2, 0, none⟩) zs.length zs.length) rfl (u := .slice none 0 0) (by rw [List.getElem?_append_right (by rw [HX.out]; omega), HX.out, Nat.sub_self]; rfl)
        rw [HM.out]
        have E1 : (ys.map Yr.val ++ (Value.slice none 0 0 :: zerosM m)).set j (.slice (some ⟨b2, 0, none⟩) zs.length zs.length) = (ys ++ [((b2, us) : Yr)]).map Yr.val ++ zerosM m := by
          rw [List.set_append_right _ _ (by rw [HX.out]; omega), HX.out, Nat.sub_self, List.set_cons_zero, List.map_append, List.append_assoc]
          simp [Yr.val, HUL.out]
        refine T.perm ?_ ?_
        · simp only [List.set_cons_succ, List.set_cons_zero, List.cons_append, List.nil_append, E1, List.map_append, List.map_cons, List.map_nil]
          exact (List.Perm.cons _ List.perm_append_comm).trans (List.Perm.swap _ _ _)
        · simp only [List.cons_append, List.nil_append, List.map_append, List.map_cons, List.map_nil]
          exact List.perm_append_comm
    · go_wp2
      go_ret
      obtain rfl : j = n := by omega
      have S_9 := S_1.out
      rw [Nat.sub_self, show zerosM 0 = [] from rfl, List.append_nil] at S_9
      have hl : ms.take j = ms := by rw [List.take_of_length_le (by rw [HL.out]; exact Nat.le_refl _)]
      exact ⟨w.heap.size, ys, by rw [HL.out]; rfl, by rw [← hl]; exact HK.out, HS.out, S_9⟩
theorem isRatSS_of {H : Type} {enc : TypeId × Value → H} {Pg : Program} {w : World} {t s e : TypeId} {a : Option Addr} {len cap : Nat} {d : DataW H} {p : List MemPlace} (hr : RatT Pg e) (hs : Pg.underlying s = some (.slice e)) (hcs : Pg.cellsOf s = 1) (ht : Pg.underlying t = some (.slice s))
    (h : DataW.Trod enc Pg w 0 (fun _ => true) true t (.slice a len cap) d p) : ∃ ms, MRow w a len ms ∧ len ≤ cap ∧ cap ≤ maxLen := by
  obtain ⟨fuel, hf⟩ := h
  rcases open_slice ht hf with ⟨hcs, _⟩ | ⟨x, l, c, m, n, D, Pl, hcl, _, hl, hm, hme, _, hall⟩
  · simp [Value.cells] at hcs
    obtain ⟨rfl, rfl, rfl⟩ := hcs
    exact ⟨[], MRow.nil, Nat.le_refl _, by unfold maxLen; omega⟩
  · simp [Value.cells] at hcl
    obtain ⟨rfl, rfl, rfl⟩ := hcl
    have hmc : m = cap := by simpa using hme
    subst hmc
    have key : ∀ i, i < len → ∃ z : Mr, z.rd w ∧ w.cell? (x.add i) = some z.val := by
      intro i hi
      obtain ⟨cs', hc, ht'⟩ := hall i (by omega)
      rw [hcs, Nat.mul_one] at hc
      obtain ⟨_, hlen, hcell⟩ := World.cells?_some hc
      obtain ⟨B, p, q, zs, rfl, hz, h1, h2⟩ := isRatS_cells hr hs ht'
      refine ⟨⟨B, p, q, zs⟩, ⟨hz, h1, h2⟩, ?_⟩
      have b := hcell 0 (by omega)
      simpa [Addr.add, Mr.val] using b
    have hF : ∃ F : Nat → Mr, ∀ i, i < len → (F i).rd w ∧ w.cell? (x.add i) = some (F i).val := by
      refine ⟨fun i => if hi : i < len then Classical.choose (key i hi) else ⟨none, 0, 0, []⟩, fun i hi => ?_⟩
      simp only [dif_pos hi]
      exact Classical.choose_spec (key i hi)
    obtain ⟨F, hF⟩ := hF
    refine ⟨(List.range len).map F, ⟨by simp, fun hn => ?_, fun z hz => ?_⟩, hl, hm⟩
    · obtain ⟨b, off, spot⟩ := x
      have z0 := (hF 0 hn).2
      have hspot : spot = none := by simpa [Addr.add] using World.cell?_spot z0
      subst hspot
      refine ⟨b, off, rfl, World.block_lt_of_cell? w _ z0, fun k m hk => ?_⟩
      obtain ⟨hk1, hk2⟩ := List.getElem?_eq_some_iff.mp hk
      have hk' : k < len := by simpa using hk1
      have e : ((List.range len).map F)[k] = F k := by simp
      rw [e] at hk2
      subst hk2
      have := (hF k hk').2
      rw [add_plainK] at this
      exact this
    · obtain ⟨i, hi, rfl⟩ := List.mem_map.mp hz
      exact (hF i (List.mem_range.mp hi)).1
end Go.Proofs.Ytdchhkpkkfjibaa
