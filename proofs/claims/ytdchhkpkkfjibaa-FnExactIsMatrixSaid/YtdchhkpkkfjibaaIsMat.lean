/- Matrices of fractions: IsMatrix of both sides. Conditions: none. -/
import Derived.Test.YtdchhkpkkfjibaaMat
namespace Go.Proofs.Ytdchhkpkkfjibaa
open Go.RowKit Nt Fr
set_option linter.unusedVariables false

def okF (d : List Int × List Fr) : Bool := d.2.all Fr.ok
def okRow (cols : Int) (r : List (List Int × List Fr)) : Bool := decide ((r.length : Int) = cols) && r.all okF
/-- Is it a matrix? -/
def okMat (cols : Int) (d : Dm) : Bool := d.all (okRow cols) && decide (d.length ≤ 10)
/-- A slice of rows to be read by the program. -/
structure MArg (w : World) (A : Option Addr) (n : Nat) (ms : List Mr) : Prop where
  row : MRow w A n ms
  arg : ∀ m ∈ ms, ∀ z ∈ m.zs, z.ra w
theorem MArg.below {w w' : World} {A : Option Addr} {n : Nat} {ms : List Mr} (h : MArg w A n ms) (hb : Below w.heap.size w w') : MArg w' A n ms := ⟨h.row.below hb, fun m hm z hz => (h.arg m hm z hz).below hb⟩
theorem rl_one {w : World} {z : Rc} (hs : z.sh 0 1) (h : z.ra w) : ∃ r : Rl, r.cells = z.cells ∧ r.arg w ∧ r.ok = okF z.dat := by
  obtain ⟨F, p0, p1, rfl⟩ := Rc.sh01 hs
  have hF : FrA w F p0 p1 := h (F, p0, p1) (by simp)
  obtain ⟨⟨A, n, c, e1, hA⟩, ⟨B, m, d, e2, hB⟩⟩ := hF
  subst e1 e2
  exact ⟨⟨F.s, A, n, c, F.xs, B, m, d, F.ys⟩, rfl, ⟨hA, hB⟩, by simp [Rl.ok, okF, Rc.dat, Fr.ok]⟩
theorem rl_list {w : World} {zs : List Rc} (hs : ∀ z ∈ zs, z.sh 0 1) (h : ∀ z ∈ zs, z.ra w) : ∃ L : List Rl, L.map Rl.cells = zs.map Rc.cells ∧ (∀ r ∈ L, r.arg w) ∧ L.all Rl.ok = (dats zs).all okF := by
  induction zs with
  | nil => exact ⟨[], rfl, by simp, rfl⟩
  | cons z r ih =>
    obtain ⟨L, h1, h2, h3⟩ := ih (fun z hz => hs z (by simp [hz])) (fun z hz => h z (by simp [hz]))
    obtain ⟨q, q1, q2, q3⟩ := rl_one (hs z (by simp)) (h z (by simp))
    refine ⟨q :: L, by simp [q1, h1], ?_, ?_⟩
    · intro y hy
      rcases List.mem_cons.mp hy with rfl | a
      · exact q2
      · exact h2 y a
    · rw [List.all_cons, h3, q3]; rfl
theorem rl_row {w : World} {A : Option Addr} {n : Nat} {zs : List Rc} (h : RRow 3 0 1 w A n zs) (ha : ∀ z ∈ zs, z.ra w) : ∃ L, RlRow w A n L ∧ L.all Rl.ok = (dats zs).all okF := by
  obtain ⟨L, h1, h2, h3⟩ := rl_list h.sh ha
  have hl : L.length = zs.length := by have := congrArg List.length h1; simpa using this
  refine ⟨L, ⟨hl.trans h.len, fun hn => ?_, h2⟩, h3⟩
  obtain ⟨g, o, e, hg, hc⟩ := h.cell hn
  refine ⟨g, o, e, hg, fun k hk j v hj => ?_⟩
  have hk' : k < zs.length := by omega
  have e2 : L[k].cells = zs[k].cells := by
    have := congrArg (fun q => q[k]?) h1
    simpa [hk, hk'] using this
  rw [e2] at hj
  exact hc k hk' j v hj
theorem areValid_row {w : World} {A : Option Addr} {n c : Nat} {zs : List Rc} (h : RRow 3 0 1 w A n zs) (ha : ∀ z ∈ zs, z.ra w) (hn : n ≤ 1048576) :
    Calls Try.prog 12 #[.slice A n c] w fun e w' => e = .returned (.bool ((dats zs).all okF)) ∧ Below w.heap.size w w' := by
  obtain ⟨L, h1, h2⟩ := rl_row h ha
  rw [← h2]
  exact areValid_l A n c L w h1 hn
theorem okRow_iff {cols : Int} {r : List (List Int × List Fr)} : okRow cols r = true ↔ (r.length : Int) = cols ∧ r.all okF = true := by simp [okRow]
theorem datm_get {ms : List Mr} {k : Nat} {m : Mr} (h : ms[k]? = some m) : (datm ms)[k]? = some (dats m.zs) := by simp [datm, h]
def rowsM (cols : Int) (ms : List Mr) (k : Nat) : Prop := ∀ i m, i < k → ms[i]? = some m → okRow cols (dats m.zs) = true
theorem rowsM_step {cols : Int} {ms : List Mr} {k : Nat} {m : Mr} (h : rowsM cols ms k) (h1 : ms[k]? = some m) (hl : okRow cols (dats m.zs) = true) : rowsM cols ms (k + 1) := by
  intro i a hi ha
  by_cases e : i = k
  · subst e
    obtain rfl := Option.some.inj (h1.symm.trans ha)
    exact hl
  · exact h i a (by omega) ha
theorem rowsM_all {cols : Int} {ms : List Mr} (h : rowsM cols ms ms.length) : (datm ms).all (okRow cols) = true := by
  rw [List.all_eq_true]
  intro r hr
  obtain ⟨m, hm, rfl⟩ := List.mem_map.mp hr
  obtain ⟨i, hi⟩ := List.mem_iff_getElem?.mp hm
  exact h i m (List.getElem?_eq_some_iff.mp hi).1 hi
theorem rowsM_bad {cols : Int} {ms : List Mr} {k : Nat} {m : Mr} (h1 : ms[k]? = some m) (hl : okRow cols (dats m.zs) = false) : okMat cols (datm ms) = false := by
  have : (datm ms).all (okRow cols) = false := by
    rw [← Bool.not_eq_true, List.all_eq_true]
    intro h
    have := h _ (List.mem_of_getElem? (datm_get h1))
    rw [hl] at this; exact absurd this (by decide)
  rw [okMat, this, Bool.false_and]
theorem okMat_end {cols : Int} {ms : List Mr} (h : rowsM cols ms ms.length) : okMat cols (datm ms) = decide (ms.length ≤ 10) := by rw [okMat, rowsM_all h, Bool.true_and, datm_len]
theorem okMat_big {cols : Int} {ms : List Mr} (h : ¬ ms.length ≤ 10) : okMat cols (datm ms) = false := by rw [okMat, datm_len, decide_eq_false h, Bool.and_false]
def fracsP (zs : List Rc) (k : Nat) : Prop := ∀ i z, i < k → zs[i]? = some z → okF z.dat = true
theorem fracsP_step {zs : List Rc} {k : Nat} {z : Rc} (h : fracsP zs k) (h1 : zs[k]? = some z) (hl : okF z.dat = true) : fracsP zs (k + 1) := by
  intro i a hi ha
  by_cases e : i = k
  · subst e
    obtain rfl := Option.some.inj (h1.symm.trans ha)
    exact hl
  · exact h i a (by omega) ha
theorem fracsP_all {zs : List Rc} (h : fracsP zs zs.length) : (dats zs).all okF = true := by
  rw [List.all_eq_true]
  intro r hr
  obtain ⟨z, hz, rfl⟩ := List.mem_map.mp hr
  obtain ⟨i, hi⟩ := List.mem_iff_getElem?.mp hz
  exact h i z (List.getElem?_eq_some_iff.mp hi).1 hi
theorem fracsP_bad {zs : List Rc} {k : Nat} {z : Rc} (h1 : zs[k]? = some z) (hl : okF z.dat = false) : (dats zs).all okF = false := by
  rw [← Bool.not_eq_true, List.all_eq_true]
  intro h
  have := h z.dat (by rw [dats]; exact List.mem_map_of_mem (List.mem_of_getElem? h1))
  rw [hl] at this; exact absurd this (by decide)
set_option maxRecDepth 100000 in
set_option maxHeartbeats 4000000 in
theorem isMatrix_i (A : Option Addr) (n c : Nat) (ms : List Mr) (cols : Int) (w : World) (hA : MArg w A n ms) (hn : n ≤ 1048576) (hr : ∀ m ∈ ms, m.n ≤ 1048576) :
    Calls Try.prog 7 #[.slice A n c, .int .i64 cols] w fun e w' => e = .returned (.bool (okMat cols (datm ms))) ∧ Below w.heap.size w w' := by
  have HA := Lib.hid hA
  have HL := Lib.hid hA.row.len
  have HN := Lib.hid hr
  obtain ⟨ok, hok⟩ : ∃ z, okMat cols (datm ms) = z := ⟨_, rfl⟩
  rw [hok]
  have HOK := Lib.hid hok
  clear hA hr hok
  by_cases hbig : 10 < n
  · have HE := Lib.hid (show false = ok by rw [← HOK.out]; exact (okMat_big (by rw [HL.out]; omega)).symm)
    go_enter Try.func7, Try.ntmps7
    go_wp2
    go_ret
    exact ⟨ret_bool HE.out, Below.refl _ _⟩
  go_enter Try.func7, Try.ntmps7
  go_wp2
  go_loopw [12] (fun i wr => ∃ k : Nat, k ≤ n ∧ i = .int .i64 k ∧ rowsM cols ms k ∧ Below w.heap.size w wr) (fun i _ => n - (intOf i).toNat)
  case atStart => exact ⟨0, Nat.zero_le _, rfl, fun i z hi => by omega, Below.refl _ _⟩
  case round =>
    obtain ⟨k, hk, rfl, hv, hb⟩ := hrel
    have HV := Lib.hid hv
    have HB := Lib.hid hb
    clear hv hb
    by_cases hlt : k < n
    · obtain ⟨g, o, z, rfl, hg, hz, hrd, hc⟩ := (HA.out.below HB.out).row.at_ hlt
      have hra := (HA.out.below HB.out).arg z (List.mem_of_getElem? hz)
      have hln := HN.out z (List.mem_of_getElem? hz)
      obtain ⟨B, p, q, zs⟩ := z
      have HZ := Lib.hid hz
      have HR := Lib.hid hrd.1
      have HRA := Lib.hid hra
      have HP := Lib.hid (show p ≤ 1048576 from hln)
      have HPL := Lib.hid (show zs.length = p from hrd.1.len)
      have c0 : wr.cell? ⟨g, o + k, none⟩ = some (.slice B p q) := hc
      clear hz hrd hra hln hc
      by_cases hcl : (p : Int) = cols
      · subst hcl
        go_wp2_with fail
        refine (areValid_row HR.out HRA.out HP.out).mono ?_
        rintro e w1 ⟨rfl, hb⟩
        have HB1 := Lib.hid (HB.out.trans (hb.mono HB.out.size))
        clear hb c0
        by_cases hz : (dats zs).all okF = true
        · rw [hz]
          have HV2 := Lib.hid (rowsM_step HV.out HZ.out (okRow_iff.mpr ⟨by show ((dats zs).length : Int) = _; rw [dats_len, HPL.out], hz⟩))
          clear hz
          go_wp2
          exact ⟨⟨k + 1, by omega, by go_num, HV2.out, HB1.out⟩, by simp [intOf]; omega⟩
        · rw [Bool.not_eq_true] at hz
          rw [hz]
          have HE := Lib.hid (show false = ok by rw [← HOK.out]; exact (rowsM_bad HZ.out (by simp only [okRow]; rw [hz, Bool.and_false])).symm)
          clear hz
          go_wp2
          go_ret
          exact ⟨ret_bool HE.out, HB1.out⟩
      · have HE := Lib.hid (show false = ok by rw [← HOK.out]; exact (rowsM_bad HZ.out (by simp only [okRow]; rw [decide_eq_false (by rw [dats_len]; have := HPL.out; omega), Bool.false_and])).symm)
        go_wp2
        go_ret
        exact ⟨ret_bool HE.out, HB.out⟩
    · obtain rfl : k = n := by omega
      have HE := Lib.hid (show true = ok by rw [← HOK.out, okMat_end (by rw [HL.out]; exact HV.out), decide_eq_true (by rw [HL.out]; omega)])
      go_wp2
      go_ret
      exact ⟨ret_bool HE.out, HB.out⟩
set_option maxRecDepth 100000 in
set_option maxHeartbeats 4000000 in
theorem isMatrix_s (A : Option Addr) (n c : Nat) (ms : List Mr) (cols : Int) (w : World) (hA : MArg w A n ms) (hn : n ≤ 1048576) (hr : ∀ m ∈ ms, m.n ≤ 1048576) :
    Calls Try.prog 5 #[.slice A n c, .int .i64 cols] w fun e w' => e = .returned (.bool (okMat cols (datm ms))) ∧ Below w.heap.size w w' := by
  have HA := Lib.hid hA
  have HL := Lib.hid hA.row.len
  have HN := Lib.hid hr
  obtain ⟨ok, hok⟩ : ∃ z, okMat cols (datm ms) = z := ⟨_, rfl⟩
  rw [hok]
  have HOK := Lib.hid hok
  clear hA hr hok
  go_enter Try.func5, Try.ntmps5
  go_wp2
  go_loopw [11] (fun i wr => ∃ k : Nat, k ≤ n ∧ i = .int .i64 k ∧ rowsM cols ms k ∧ Below w.heap.size w wr) (fun i _ => n - (intOf i).toNat)
  case atStart => exact ⟨0, Nat.zero_le _, rfl, fun i z hi => by omega, Below.refl _ _⟩
  case round =>
    obtain ⟨k, hk, rfl, hv, hb⟩ := hrel
    have HV := Lib.hid hv
    have HB := Lib.hid hb
    clear hv hb
    by_cases hlt : k < n
    · obtain ⟨g, o, z, rfl, hg, hz, hrd, hc⟩ := (HA.out.below HB.out).row.at_ hlt
      have hra := (HA.out.below HB.out).arg z (List.mem_of_getElem? hz)
      have hln := HN.out z (List.mem_of_getElem? hz)
      obtain ⟨B, p, q, zs⟩ := z
      have HZ := Lib.hid hz
      have HR := Lib.hid hrd.1
      have HRA := Lib.hid hra
      have hp1 : p ≤ 1048576 := hln
      have HPL := Lib.hid (show zs.length = p from hrd.1.len)
      have c0 : wr.cell? ⟨g, o + k, none⟩ = some (.slice B p q) := hc
      clear hz hrd hra hln hc
      by_cases hcl : (p : Int) = cols
      · subst hcl
        have hkz : (k : Int) < (n : Int) := by omega
        go_wp2
        go_loopw [21] (fun i wq => ∃ j : Nat, j ≤ p ∧ i = .int .i64 j ∧ fracsP zs j ∧ Below wr.heap.size wr wq) (fun i _ => p - (intOf i).toNat)
        case atStart => exact ⟨0, Nat.zero_le _, rfl, fun i z hi => by omega, Below.refl _ _⟩
        case round =>
          obtain ⟨j, hj, rfl, hv2, hb2⟩ := hrel
          have HV2 := Lib.hid hv2
          have HB2 := Lib.hid hb2
          clear hv2 hb2 c0
          by_cases hjp : j < p
          · obtain ⟨g2, o2, y, rfl, hg2, hy, hyr, hys, hyc⟩ := (HR.out.below HB2.out).at_ hjp
            obtain ⟨F, p0, p1, rfl⟩ := Rc.sh01 hys
            have hF : FrA _ F p0 p1 := ((HRA.out _ (List.mem_of_getElem? hy)).below HB2.out) (F, p0, p1) (by simp)
            obtain ⟨a1, n1, k1, a2, n2, k2, rfl, rfl⟩ := hF.shape
            have HY := Lib.hid hy
            have HF := Lib.hid hF
            have d0 : wr.cell? ⟨g2, o2 + j * 3, none⟩ = some (.bool F.s) := hyc 0 _ rfl
            have d1 : wr.cell? ⟨g2, o2 + j * 3 + 1, none⟩ = some (.slice a1 n1 k1) := hyc 1 _ rfl
            have d2 : wr.cell? ⟨g2, o2 + j * 3 + 2, none⟩ = some (.slice a2 n2 k2) := hyc 2 _ rfl
            clear hy hyr hys hyc hF
            go_wp2_with fail
            refine (ratOk_s F (.slice a1 n1 k1) (.slice a2 n2 k2) _ (HF.out.below ((Below.refl _ _).alloc (Nat.le_refl _) _))).mono ?_
            rintro e w3 ⟨rfl, hb⟩
            have HB3 := Lib.hid (HB2.out.trans ((((Below.refl _ _).alloc (Nat.le_refl _) _).trans (hb.mono (by simp))).mono HB2.out.size))
            clear hb d0 d1 d2
            by_cases hok2 : F.ok = true
            · rw [hok2]
              have HV3 := Lib.hid (fracsP_step HV2.out HY.out (by simp [okF, Rc.dat, hok2]))
              clear hok2
              go_wp2
              exact ⟨⟨j + 1, by omega, by go_num, HV3.out, HB3.out⟩, by simp [intOf]; omega⟩
            · rw [Bool.not_eq_true] at hok2
              rw [hok2]
              have HE := Lib.hid (show false = ok by rw [← HOK.out]; exact (rowsM_bad HZ.out (by simp only [okRow]; rw [fracsP_bad HY.out (by simp [okF, Rc.dat, hok2]), Bool.and_false])).symm)
              have HB9 := Lib.hid (HB.out.trans (HB3.out.mono HB.out.size))
              clear hok2
              go_wp2
              go_ret
              exact ⟨ret_bool HE.out, HB9.out⟩
          · obtain rfl : j = p := by omega
            have HV3 := Lib.hid (rowsM_step HV.out HZ.out (okRow_iff.mpr ⟨by show ((dats zs).length : Int) = _; rw [dats_len, HPL.out], fracsP_all (by rw [HPL.out]; exact HV2.out)⟩))
            have HB9 := Lib.hid (HB.out.trans (HB2.out.mono HB.out.size))
            go_wp2
            exact ⟨⟨k + 1, by omega, by go_num, HV3.out, HB9.out⟩, by simp [intOf]; omega⟩
      · have HE := Lib.hid (show false = ok by rw [← HOK.out]; exact (rowsM_bad HZ.out (by simp only [okRow]; rw [decide_eq_false (by rw [dats_len]; have := HPL.out; omega), Bool.false_and])).symm)
        go_wp2
        go_ret
        exact ⟨ret_bool HE.out, HB.out⟩
    · obtain rfl : k = n := by omega
      have HE := Lib.hid (show decide ((k : Int) ≤ 10) = ok by rw [← HOK.out, okMat_end (by rw [HL.out]; exact HV.out), HL.out]; exact decide_eq_decide.mpr (by omega))
      go_wp2
      go_ret
      exact ⟨ret_bool HE.out, HB.out⟩
end Go.Proofs.Ytdchhkpkkfjibaa
