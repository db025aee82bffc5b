/- Contracts of the program's helpers over rows of limbs: rowOf, natOrNil, addTimes, subtractTimes. Conditions: none. -/
import Derived.Test.YtdilbhkdkppodaaProg
import Derived.Test.YtdilbhkdkppodaaHelpI
import Derived.Test.YtdilbhkdkppodaaTrim
import Derived.Laws.CopyOwn
namespace Go.Proofs.Ytdilbhkdkppodaa
open Go.RowKit Nt
set_option linter.unusedVariables false

theorem whole_heap {w : World} {base g : Nat} {e : TypeId} {ys : List Value} (h : Whole w base g e ys) : w.heap[g]? = some (.cells ys.toArray e (0, 0)) := by
  rcases h.2 with ⟨hv, _⟩ | ⟨g', cap, cur, hv, hb, hh, hnc, hcm, hcs, ht⟩
  · simp at hv
  · obtain ⟨rfl, rfl⟩ : g = g' ∧ ys.length = cap := by simpa using hv
    rw [hh]
    have e : cur.toList = ys := by
      rw [← ht, List.take_of_length_le]
      have : cur.toList.length = cur.size := by simp
      omega
    rw [← e]
theorem whole_of {w : World} {base g : Nat} {e : TypeId} {ys : List Value} (hb : base ≤ g) (h : w.heap[g]? = some (.cells ys.toArray e (0, 0))) (hl : ys.length ≤ maxLen) : Whole w base g e ys :=
  ⟨by simp, .inr ⟨g, _, ys.toArray, rfl, hb, h, Nat.le_refl _, hl, by simp, by simp⟩⟩
/-- Y with F laid over it from place o on, k places. -/
def upd (Y : List Nat) (o k : Nat) (F : Nat → Nat) : List Nat := Y.take o ++ ((List.range k).map F ++ Y.drop (o + k))
theorem upd_len (Y : List Nat) (o k : Nat) (F : Nat → Nat) (h : o + k ≤ Y.length) : (upd Y o k F).length = Y.length := by simp [upd]; omega
theorem upd_zero (Y : List Nat) (o : Nat) (F : Nat → Nat) : upd Y o 0 F = Y := by simp [upd]
theorem upd_get? (Y : List Nat) (o k : Nat) (F : Nat → Nat) (h : o + k < Y.length) : (upd Y o k F)[o + k]? = some Y[o + k] := by
  unfold upd
  rw [List.getElem?_append_right (by simp; omega), List.getElem?_append_right (by simp; omega), List.getElem?_drop]
  have e : o + k + (o + k - (Y.take o).length - ((List.range k).map F).length) = o + k := by simp; omega
  rw [e, List.getElem?_eq_getElem h]
theorem upd_set (Y : List Nat) (o k : Nat) (F : Nat → Nat) (h : o + k < Y.length) : (upd Y o k F).set (o + k) (F k) = upd Y o (k + 1) F := by
  unfold upd
  rw [List.set_append_right _ _ (by simp; omega)]
  have e : o + k - (Y.take o).length = k := by simp; omega
  have s := set_step F (Y.drop o) k (by simp; omega)
  rw [List.drop_drop, List.drop_drop] at s
  rw [e, s]
theorem digs_upd {Y : List Nat} {o k : Nat} {F : Nat → Nat} (hY : Digs Y) (hF : Digs ((List.range k).map F)) : Digs (upd Y o k F) := (hY.take o).app (hF.app (hY.drop _))
theorem win_getD (Y : List Nat) (o n k : Nat) (hk : k < n) (h : o + n ≤ Y.length) : ((Y.drop o).take n).getD k 0 = Y[o + k]'(by omega) := by
  rw [List.getD_eq_getElem?_getD, List.getElem?_take_of_lt hk, List.getElem?_drop, List.getElem?_eq_getElem (by omega)]
  rfl
theorem add_off (g o k : Nat) : (⟨g, o, none⟩ : Addr).add k = ⟨g, o + k, none⟩ := by unfold Addr.add; split <;> simp_all
/-- What 'copy' does to a block of its own. -/
theorem run_copy_any {P : Program} {w : World} (dT sT ty elem : TypeId) (hu : P.underlying dT = some (.slice elem)) (hsz : (P.info? elem).map (·.size) = some 1)
    (dp sp : Option Addr) (dLen dCap sLen sCap : Nat) (g off : Nat) (cur : List Value) (t : TypeId) (hg : w.heap[g]? = some (.cells cur.toArray t (0, 0))) (cs : List Value) (hn : cs.length = Nat.min sLen dLen)
    (hpos : 0 < cs.length → dp = some ⟨g, off, none⟩ ∧ ∃ ad, sp = some ad ∧ ∀ j v, cs[j]? = some v → w.cell? (ad.add j) = some v)
    (hfit : off + cs.length ≤ cur.length) (h1 : ∀ v ∈ cs, v.oneCell' = true) (B : Nat) (w0 : World) (hb : Below B w0 w) (hBg : B ≤ g) :
    ∃ w', (Builtin.copy_ #[dT, sT] ty #[.slice dp dLen dCap, .slice sp sLen sCap]).run P w = .ok (goInt cs.length) w' ∧ w'.heap[g]? = some (.cells (splice cur off cs).toArray t (0, 0)) ∧ Below B w0 w' := by
  by_cases h0 : cs.length = 0
  · obtain rfl : cs = [] := List.eq_nil_of_length_eq_zero h0
    exact ⟨w, run_copy_none (P := P) w dT sT ty elem dp sp dLen dCap sLen sCap hu hsz (by simpa using hn.symm), by simpa [splice] using hg, hb⟩
  · obtain ⟨rfl, ad, rfl, hsrc⟩ := hpos (by omega)
    exact ⟨_, run_copy_row (P := P) w dT sT ty elem g off dLen dCap ad sLen sCap cur.toArray t cs hu hsz hg hn hsrc (by simpa using hfit) h1, by simpa [splice] using setRow_heap w g _ _ t _ hg, below_setRow hb hBg _⟩
theorem VRow.off {w : World} {B : Option Addr} {m g : Nat} {xs : List Value} (h : VRow w B m xs) (hg : w.heap.size ≤ g) : 0 < m → ∀ a : Addr, B = some a → a.block ≠ g := by
  intro hm a ha
  obtain ⟨g', o, rfl, hlt, _⟩ := h.2 hm
  obtain rfl : (⟨g', o, none⟩ : Addr) = a := by simpa using ha
  simp; omega
theorem nats_replicate (n : Nat) : nats (List.replicate n 0) = List.replicate n (.int .i64 0) := by simp [nats, ints]
theorem nats_oneCell (ds : List Nat) : ∀ v ∈ nats ds, v.oneCell' = true := by
  intro v hv
  simp [nats, ints] at hv
  obtain ⟨a, _, rfl⟩ := hv
  rfl

set_option maxRecDepth 100000 in
set_option maxHeartbeats 1000000 in
theorem rowOf_any (A : Option Addr) (n c m : Nat) (M : Int) (hM : M = (m : Int)) (ds : List Nat) (w : World) (hA : VRow w A n (nats ds)) (hnm : n ≤ m) (hm : m ≤ 1048576) :
    Calls Try.prog 87 #[.slice A n c, .int .i64 M] w fun e w' => e = .returned (.slice (some ⟨w.heap.size, 0, none⟩) m m) ∧ Whole w' w.heap.size w.heap.size 3 (nats (ds ++ List.replicate (m - n) 0)) ∧ Below w.heap.size w w' := by
  subst hM
  obtain ⟨i0, hi, hz0, hz1, hz2⟩ := info_parts info_int
  have HL := Lib.hid (show ds.length = n by simpa [nats_len] using hA.1)
  have HA := Lib.hid hA
  clear hA
  go_enter Try.func87, Try.ntmps87
  go_wp2_with (at_make; refine wpList_make_full _ rfl _ _ _ rfl w.heap.size 3 i0 _ 1 Try.underlying22 hi hz0 hz1 .i64 .i64 _ _ m rfl rfl rfl rfl (by rw [hz2]; omega) (by unfold maxLen; omega) (Nat.le_refl _) ?_; intro w1 hown hgrow)
  have HB := Lib.hid ((Below.refl w.heap.size w).grown hgrow (Nat.le_refl _) (by simp))
  have hz : (madeCells (Value.int .i64 0).cells (m * 1)).toList = nats (List.replicate m 0) := by
    rw [nats_replicate, Nat.mul_one]; exact toList_madeCells_one _ _
  rw [hz] at hown
  have hW : Whole w1 w.heap.size w.heap.size 3 (nats (List.replicate m 0)) := by
    unfold Whole
    rw [nats_len, List.length_replicate]
    exact hown
  have HW := Lib.hid hW
  clear hown hgrow hz hW
  obtain ⟨X, hX⟩ : ∃ X, X = nats ds := ⟨_, rfl⟩
  have HX := Lib.hid hX
  have hXl : X.length = n := by rw [hX, nats_len, HL.out]
  clear hX
  obtain ⟨Z, hZ⟩ : ∃ Z, Z = nats (List.replicate m 0) := ⟨_, rfl⟩
  have HZ := Lib.hid hZ
  have HZl := Lib.hid (show Z.length = m by rw [hZ, nats_len, List.length_replicate])
  rw [← hZ] at HW
  clear hZ
  have HXL := Lib.hid hXl
  clear hXl
  have HA1 := Lib.hid (HA.out.below HB.out (Nat.le_refl _))
  have hpos : 0 < X.length → some (⟨w.heap.size, 0, none⟩ : Addr) = some ⟨w.heap.size, 0, none⟩ ∧ ∃ ad, A = some ad ∧ ∀ j v, X[j]? = some v → w1.cell? (ad.add j) = some v := by
    intro hp
    refine ⟨rfl, ?_⟩
    obtain ⟨g, o, rfl, hg, hc⟩ := HA1.out.2 (by rw [HXL.out] at hp; exact hp)
    refine ⟨_, rfl, fun j v hv => ?_⟩
    have hj : j < n := by
      have := (List.getElem?_eq_some_iff.mp hv).1
      rw [HXL.out] at this; exact this
    have := hc j hj
    rw [← HX.out, hv] at this
    rw [add_off]; exact this
  have HP := Lib.hid hpos
  have HMN := Lib.hid (show X.length = Nat.min n m by rw [HXL.out]; exact (Nat.min_eq_left hnm).symm)
  have HFI := Lib.hid (show 0 + X.length ≤ Z.length by rw [HXL.out, HZl.out]; omega)
  have HOC := Lib.hid (show ∀ v ∈ X, v.oneCell' = true by rw [HX.out]; exact nats_oneCell ds)
  have HSZ := Lib.hid (show (Try.prog.info? 3).map (·.size) = some 1 by rw [hi]; simp [hz1])
  clear hpos
  obtain ⟨w2, hrun, hw2, hb2⟩ := run_copy_any (P := Try.prog) 22 22 3 3 Try.underlying22 HSZ.out _ _ m m n c w.heap.size 0 Z 3 (whole_heap HW.out) X HMN.out HP.out HFI.out HOC.out w.heap.size w HB.out (Nat.le_refl _)
  have HW2 := Lib.hid hw2
  clear hw2
  have HB2 := Lib.hid hb2
  clear hb2
  go_wp2
  go_ret
  refine ⟨rfl, ?_, HB2.out⟩
  have h := HW2.out
  have e : splice Z 0 X = nats (ds ++ List.replicate (m - n) 0) := by
    rw [splice, HX.out, HZ.out, nats_app]
    simp only [List.take_zero, List.nil_append, Nat.zero_add, nats_len, HL.out]
    rw [nats_drop, List.drop_replicate]
  rw [e] at h
  exact whole_of (Nat.le_refl _) h (by rw [nats_len, List.length_append, List.length_replicate, HL.out]; unfold maxLen; omega)
/-- The limbs of a number that has at most 60 of them, else none. -/
def capd (n : Nat) : List Nat := if (dig n).length ≤ 60 then dig n else []
theorem capd_len (n : Nat) : (capd n).length ≤ 60 := by unfold capd; split <;> simp_all
theorem capd_of {n : Nat} (h : n < 1000000000 ^ 60) : capd n = dig n := by rw [capd, if_pos (dig_len h)]
theorem OwnV.of_whole {w : World} {base g : Nat} {e : TypeId} {ys : List Value} (h : Whole w base g e ys) : OwnV w base e (.slice (some ⟨g, 0, none⟩) ys.length ys.length) ys :=
  .inr ⟨g, _, ys, rfl, Nat.le_refl _, Nat.le_refl _, h, List.take_length⟩
theorem dig_le_len {ds : List Nat} (h : Digs ds) : (dig (val ds)).length ≤ ds.length := dig_len (val_lt h)
/-- The limbs that are left of a row are its first ones. -/
theorem take_dig {ds : List Nat} (h : Digs ds) : ds.take (dig (val ds)).length = dig (val ds) := by
  exact canon_pre h
set_option maxRecDepth 100000 in
set_option maxHeartbeats 1000000 in
theorem natOrNil_any (g n base : Nat) (ds : List Nat) (hl : ds.length = n) (w : World) (hW : Whole w base g 3 (nats ds)) (hd : Digs ds) (hn : n ≤ 1048576) :
    Calls Try.prog 104 #[.slice (some ⟨g, 0, none⟩) n n] w fun e w' => (∃ v, e = .returned v ∧ OwnV w base 3 v (nats (capd (val ds))) ∧ (v.ownBlock = none ∨ v.ownBlock = some g)) ∧ w' = w := by
  have hr : VRow w (some ⟨g, 0, none⟩) n (nats ds) := by
    have h := hW.row 0 n (by rw [nats_len]; omega)
    rw [List.drop_zero, List.take_of_length_le (by rw [nats_len]; omega)] at h
    exact h
  have hv := OwnV.of_whole hW
  rw [nats_len, hl] at hv
  have hk := dig_le_len hd
  have hc := hv.cut (m := (dig (val ds)).length) (c2 := (dig (val ds)).length) (by omega) (Nat.le_refl _) (by omega)
  rw [nats_take, take_dig hd] at hc
  have HR := Lib.hid hr
  have HC := Lib.hid hc
  have HD := Lib.hid hd
  clear hr hc hd hv hW
  go_enter Try.func104, Try.ntmps104
  go_wp2_with fail
  refine (trimmed_any _ n n ds _ HR.out HD.out (Nat.le_refl _) (by unfold maxLen; omega) (fun h => by simp at h)).mono ?_
  rintro e w1 ⟨rfl, rfl⟩
  have HK := Lib.hid (show capd (val ds) = if (dig (val ds)).length ≤ 60 then dig (val ds) else [] from rfl)
  by_cases h60 : (dig (val ds)).length ≤ 60
  · have e : capd (val ds) = dig (val ds) := by rw [HK.out, if_pos h60]
    have HE := Lib.hid e
    clear e
    generalize hm : (dig (val ds)).length = m at *
    have HM := Lib.hid hm
    clear hm
    go_wp2
    go_ret
    refine ⟨⟨_, rfl, ?_, .inr rfl⟩, rfl⟩
    rw [HE.out]
    exact HC.out
  · have e : capd (val ds) = [] := by rw [HK.out, if_neg h60]
    have HE := Lib.hid e
    clear e
    generalize hm : (dig (val ds)).length = m at *
    have HM := Lib.hid hm
    clear hm
    go_wp2
    go_ret
    refine ⟨⟨_, rfl, ?_, .inl rfl⟩, rfl⟩
    rw [HE.out]
    exact OwnV.nil _ _ _
set_option maxRecDepth 100000 in
set_option maxHeartbeats 2000000 in
theorem addTimes_any (g o n c base : Nat) (Y : List Nat) (B : Option Addr) (m d : Nat) (bs : List Nat) (f : Nat) (F : Int) (hF : F = (f : Int)) (w : World)
    (hW : Whole w base g 3 (nats Y)) (hon : o + n ≤ Y.length) (hY : Digs Y) (hB : VRow w B m (nats bs)) (hBg : 0 < m → ∀ a : Addr, B = some a → a.block ≠ g) (hb : Digs bs) (hf : f < 1000000000) (hn : n ≤ 1048576) (hm : m ≤ 1048576) :
    Calls Try.prog 100 #[.slice (some ⟨g, o, none⟩) n c, .slice B m d, .int .i64 F] w fun e w' => e = .returned (.tuple #[]) ∧ Whole w' base g 3 (nats (upd Y o n (sumAt ((Y.drop o).take n) bs f))) ∧ w.grownBy w' (some g) := by
  subst hF
  obtain ⟨ys, hys⟩ : ∃ ys, (Y.drop o).take n = ys := ⟨_, rfl⟩
  have HYS := Lib.hid hys
  have hyd : Digs ys := hys ▸ (hY.drop o).take n
  have HML := Lib.hid (show bs.length = m by simpa [nats_len] using hB.1)
  rw [hys]
  have HW := Lib.hid hW
  have HY := Lib.hid hY
  have HBs := Lib.hid hb
  have HB := Lib.hid hB
  have HBG := Lib.hid hBg
  have HYD := Lib.hid hyd
  clear hys hW hY hb hB hBg hyd
  go_enter Try.func100, Try.ntmps100
  go_wp2
  go_loopw [6, 11] (fun cr i wr => ∃ k q : Nat, k ≤ n ∧ i = .int .i64 k ∧ cr = .int .i64 (car ys bs f k : Nat) ∧ Whole wr base g 3 (nats (upd Y o k (sumAt ys bs f))) ∧ w.grownBy wr (some g)) (fun _ i _ => n - (intOf i).toNat)
  case atStart => exact ⟨0, 0, Nat.zero_le _, rfl, rfl, by rw [upd_zero]; exact HW.out, World.grownBy.refl _ _⟩
  case round =>
    obtain ⟨k, q, hk, rfl, rfl, hw, hg⟩ := hrel
    have HW' := Lib.hid hw
    have HG := Lib.hid hg
    clear hw hg
    by_cases hlt : k < n
    · have hok : o + k < Y.length := by omega
      have hul : (upd Y o k (sumAt ys bs f)).length = Y.length := upd_len _ _ _ _ (by omega)
      have hcell : wr.cell? ⟨g, o + k, none⟩ = some (.int .i64 ((Y[o + k]'hok : Nat) : Int)) := by
        have h := HW'.out.cell (o + k) (by rw [nats_len]; omega)
        rw [h, nats_get]
        congr 3
        have := upd_get? Y o k (sumAt ys bs f) (by omega)
        rw [List.getElem?_eq_getElem (by omega)] at this
        simpa using this
      have hyk : ys.getD k 0 = Y[o + k]'hok := by have h := win_getD Y o n k hlt hon; rw [HYS.out] at h; exact h
      obtain ⟨y, hy⟩ : ∃ y, Y[o + k]'hok = y := ⟨_, rfl⟩
      rw [hy] at hcell hyk
      have hyb : y < 1000000000 := by rw [← hyk]; exact HYD.out.getD k
      have hcb := car_lt ys bs f k HYD.out HBs.out hf
      have hfz := HW'.out.frozen (o + k)
      have hsum : sumAt ys bs f k = (ys.getD k 0 + car ys bs f k + bs.getD k 0 * f) % 1000000000 := rfl
      have hcar : car ys bs f (k + 1) = (ys.getD k 0 + car ys bs f k + bs.getD k 0 * f) / 1000000000 := rfl
      rw [hyk] at hsum hcar
      have HSET := Lib.hid (fun u => HW'.out.set (o + k) u)
      have HSG := Lib.hid (fun u => HW'.out.setGrown (o + k) u)
      have HUS := Lib.hid (upd_set Y o k (sumAt ys bs f) (by omega))
      have hkz : (k : Int) < (n : Int) := by omega
      obtain ⟨cr, hcr⟩ : ∃ cr, car ys bs f k = cr := ⟨_, rfl⟩
      rw [hcr] at hcb hsum hcar ⊢
      clear hul hy hyk hcr
      by_cases hkm : k < m
      · obtain ⟨g', o', rfl, hg', hc'⟩ := (HB.out.grown HG.out (fun a ha => by have := HBG.out (by omega) a ha; simp; omega)).at_ hkm
        rw [nats_get] at hc'
        have hkb : k < bs.length := by have := HML.out; omega
        obtain ⟨x, hx⟩ : ∃ x, bs[k] = x := ⟨_, rfl⟩
        have hxb : x < 1000000000 := hx ▸ HBs.out.get hkb
        have hgd : bs.getD k 0 = x := by rw [← hx]; simp [hkb]
        rw [hx] at hc'
        rw [hgd] at hsum hcar
        obtain ⟨p, hp⟩ : ∃ p, x * f = p := ⟨_, rfl⟩
        have hpb : p ≤ 999999999 * 999999999 := by rw [← hp]; exact Nat.mul_le_mul (by omega) (by omega)
        rw [hp] at hsum hcar
        have hpz : (x : Int) * (f : Int) = (p : Int) := by rw [← hp]; simp
        have HSUM := Lib.hid hsum
        have HCAR := Lib.hid hcar
        clear hsum hcar hx hp hgd
        have hkmz : (k : Int) < (m : Int) := by omega
        go_wp2
        have e1 : ((y : Int) + cr + p) % 1000000000 = ((sumAt ys bs f k : Nat) : Int) := by rw [HSUM.out]; omega
        have e2 : ((y : Int) + cr + p) / 1000000000 = ((car ys bs f (k + 1) : Nat) : Int) := by rw [HCAR.out]; omega
        refine ⟨⟨k + 1, 0, by omega, by go_num, ?_, ?_, ?_⟩, by simp [intOf]; omega⟩
        · rw [← e2]
        · have h := HSET.out (.int .i64 ((sumAt ys bs f k : Nat) : Int))
          rw [nats_set, HUS.out, ← e1] at h
          exact h
        · exact grown_grown HG.out (HSG.out _)
      · have hgd : bs.getD k 0 = 0 := by
          have := HML.out
          simp [List.getElem?_eq_none (show bs.length ≤ k by omega)]
        rw [hgd, Nat.zero_mul, Nat.add_zero] at hsum hcar
        have HSUM := Lib.hid hsum
        have HCAR := Lib.hid hcar
        clear hsum hcar hgd
        have hkmz : ¬ (k : Int) < (m : Int) := by omega
        go_wp2
        have e1 : ((y : Int) + cr) % 1000000000 = ((sumAt ys bs f k : Nat) : Int) := by rw [HSUM.out]; omega
        have e2 : ((y : Int) + cr) / 1000000000 = ((car ys bs f (k + 1) : Nat) : Int) := by rw [HCAR.out]; omega
        refine ⟨⟨k + 1, 0, by omega, by go_num, ?_, ?_, ?_⟩, by simp [intOf]; omega⟩
        · rw [← e2]
        · have h := HSET.out (.int .i64 ((sumAt ys bs f k : Nat) : Int))
          rw [nats_set, HUS.out, ← e1] at h
          exact h
        · exact grown_grown HG.out (HSG.out _)
    · go_wp2
      go_end0
      obtain rfl : k = n := by omega
      exact ⟨rfl, HW'.out, HG.out⟩
theorem Whole.set2 {w : World} {base g : Nat} {e : TypeId} {ys : List Value} (h : Whole w base g e ys) (j : Nat) (u v : Value) : Whole ((w.setCell ⟨g, j, none⟩ u).setCell ⟨g, j, none⟩ v) base g e (ys.set j v) := by
  have := (h.set j u).set j v
  rwa [List.set_set] at this
theorem Whole.set2Grown {w : World} {base g : Nat} {e : TypeId} {ys : List Value} (h : Whole w base g e ys) (j : Nat) (u v : Value) : w.grownBy ((w.setCell ⟨g, j, none⟩ u).setCell ⟨g, j, none⟩ v) (some g) :=
  grown_grown (h.setGrown j u) ((h.set j u).setGrown j v)
set_option maxRecDepth 100000 in
set_option maxHeartbeats 2000000 in
theorem subtractTimes_any (g o n c base : Nat) (Y : List Nat) (B : Option Addr) (m d : Nat) (bs : List Nat) (f : Nat) (F : Int) (hF : F = (f : Int)) (w : World)
    (hW : Whole w base g 3 (nats Y)) (hon : o + n ≤ Y.length) (hY : Digs Y) (hB : VRow w B m (nats bs)) (hBg : 0 < m → ∀ a : Addr, B = some a → a.block ≠ g) (hb : Digs bs) (hf : f ≤ 1000000000) (hn : n ≤ 1048576) (hm : m ≤ 1048576) :
    Calls Try.prog 99 #[.slice (some ⟨g, o, none⟩) n c, .slice B m d, .int .i64 F] w fun e w' => e = .returned (.int .i64 (bor ((Y.drop o).take n) bs f n : Nat)) ∧ Whole w' base g 3 (nats (upd Y o n (difAt ((Y.drop o).take n) bs f))) ∧ w.grownBy w' (some g) := by
  subst hF
  obtain ⟨ys, hys⟩ : ∃ ys, (Y.drop o).take n = ys := ⟨_, rfl⟩
  have HYS := Lib.hid hys
  have hyd : Digs ys := hys ▸ (hY.drop o).take n
  have HML := Lib.hid (show bs.length = m by simpa [nats_len] using hB.1)
  rw [hys]
  have HW := Lib.hid hW
  have HY := Lib.hid hY
  have HBs := Lib.hid hb
  have HB := Lib.hid hB
  have HBG := Lib.hid hBg
  have HYD := Lib.hid hyd
  clear hys hW hY hb hB hBg hyd
  go_enter Try.func99, Try.ntmps99
  go_wp2
  go_loopw [7, 12] (fun cr i wr => ∃ k : Nat, k ≤ n ∧ i = .int .i64 k ∧ cr = .int .i64 (bor ys bs f k : Nat) ∧ Whole wr base g 3 (nats (upd Y o k (difAt ys bs f))) ∧ w.grownBy wr (some g)) (fun _ i _ => n - (intOf i).toNat)
  case atStart => exact ⟨0, Nat.zero_le _, rfl, rfl, by rw [upd_zero]; exact HW.out, World.grownBy.refl _ _⟩
  case round =>
    obtain ⟨k, hk, rfl, rfl, hw, hg⟩ := hrel
    have HW' := Lib.hid hw
    have HG := Lib.hid hg
    clear hw hg
    by_cases hlt : k < n
    · have hok : o + k < Y.length := by omega
      have hul : (upd Y o k (difAt ys bs f)).length = Y.length := upd_len _ _ _ _ (by omega)
      have hcell : wr.cell? ⟨g, o + k, none⟩ = some (.int .i64 ((Y[o + k]'hok : Nat) : Int)) := by
        have h := HW'.out.cell (o + k) (by rw [nats_len]; omega)
        rw [h, nats_get]
        congr 3
        have := upd_get? Y o k (difAt ys bs f) (by omega)
        rw [List.getElem?_eq_getElem (by omega)] at this
        simpa using this
      have hyk : ys.getD k 0 = Y[o + k]'hok := by have h := win_getD Y o n k hlt hon; rw [HYS.out] at h; exact h
      obtain ⟨y, hy⟩ : ∃ y, Y[o + k]'hok = y := ⟨_, rfl⟩
      rw [hy] at hcell hyk
      have hyb : y < 1000000000 := by rw [← hyk]; exact HYD.out.getD k
      have hcb := bor_le ys bs f k HBs.out hf
      have hfz := HW'.out.frozen (o + k)
      have hdif : difAt ys bs f k = if ys.getD k 0 < (bor ys bs f k + bs.getD k 0 * f) % 1000000000 then ys.getD k 0 + 1000000000 - (bor ys bs f k + bs.getD k 0 * f) % 1000000000 else ys.getD k 0 - (bor ys bs f k + bs.getD k 0 * f) % 1000000000 := rfl
      have hbor : bor ys bs f (k + 1) = (bor ys bs f k + bs.getD k 0 * f) / 1000000000 + if ys.getD k 0 < (bor ys bs f k + bs.getD k 0 * f) % 1000000000 then 1 else 0 := rfl
      rw [hyk] at hdif hbor
      have HSET := Lib.hid (fun u => HW'.out.set (o + k) u)
      have HSG := Lib.hid (fun u => HW'.out.setGrown (o + k) u)
      have HUS := Lib.hid (upd_set Y o k (difAt ys bs f) (by omega))
      have hkz : (k : Int) < (n : Int) := by omega
      obtain ⟨cr, hcr⟩ : ∃ cr, bor ys bs f k = cr := ⟨_, rfl⟩
      rw [hcr] at hcb hdif hbor ⊢
      clear hul hy hyk hcr
      have key : ∀ p : Nat, p ≤ 999999999 * 1000000000 → bs.getD k 0 * f = p → (y < (cr + p) % 1000000000 → difAt ys bs f k = y + 1000000000 - (cr + p) % 1000000000 ∧ bor ys bs f (k + 1) = (cr + p) / 1000000000 + 1) ∧ (¬ y < (cr + p) % 1000000000 → difAt ys bs f k = y - (cr + p) % 1000000000 ∧ bor ys bs f (k + 1) = (cr + p) / 1000000000) := by
        intro p _ hp
        rw [hp] at hdif hbor
        refine ⟨fun h => ?_, fun h => ?_⟩
        · rw [if_pos h] at hdif hbor; exact ⟨hdif, hbor⟩
        · rw [if_neg h] at hdif hbor; exact ⟨hdif, hbor⟩
      have KEY := Lib.hid key
      clear hdif hbor key
      by_cases hkm : k < m
      · obtain ⟨g', o', rfl, hg', hc'⟩ := (HB.out.grown HG.out (fun a ha => by have := HBG.out (by omega) a ha; simp; omega)).at_ hkm
        rw [nats_get] at hc'
        have hkb : k < bs.length := by have := HML.out; omega
        obtain ⟨x, hx⟩ : ∃ x, bs[k] = x := ⟨_, rfl⟩
        have hxb : x < 1000000000 := hx ▸ HBs.out.get hkb
        have hgd : bs.getD k 0 = x := by rw [← hx]; simp [hkb]
        rw [hx] at hc'
        obtain ⟨p, hp⟩ : ∃ p, x * f = p := ⟨_, rfl⟩
        have hpb : p ≤ 999999999 * 1000000000 := by rw [← hp]; exact Nat.mul_le_mul (by omega) (by omega)
        have hpz : (x : Int) * (f : Int) = (p : Int) := by rw [← hp]; simp
        have hk2 := KEY.out p hpb (by rw [hgd, hp])
        clear hx hp hgd
        have hkmz : (k : Int) < (m : Int) := by omega
        by_cases hneg : y < (cr + p) % 1000000000
        · have HK := Lib.hid (hk2.1 hneg)
          clear hk2
          have hnegz : (y : Int) - ((cr : Int) + p) % 1000000000 < 0 := by omega
          go_wp2
          have e1 : (y : Int) - ((cr : Int) + p) % 1000000000 + 1000000000 = ((difAt ys bs f k : Nat) : Int) := by rw [HK.out.1]; omega
          have e2 : ((cr : Int) + p) / 1000000000 + 1 = ((bor ys bs f (k + 1) : Nat) : Int) := by rw [HK.out.2]; omega
          refine ⟨⟨k + 1, by omega, by go_num, ?_, ?_, ?_⟩, by simp [intOf]; omega⟩
          · rw [← e2]
          · have h := HW'.out.set2 (o + k) (.int .i64 ((y : Int) - ((cr : Int) + p) % 1000000000)) (.int .i64 ((difAt ys bs f k : Nat) : Int))
            rw [nats_set, HUS.out, ← e1] at h
            exact h
          · exact grown_grown HG.out (HW'.out.set2Grown _ _ _)
        · have HK := Lib.hid (hk2.2 hneg)
          clear hk2
          have hnegz : ¬ (y : Int) - ((cr : Int) + p) % 1000000000 < 0 := by omega
          go_wp2
          have e1 : (y : Int) - ((cr : Int) + p) % 1000000000 = ((difAt ys bs f k : Nat) : Int) := by rw [HK.out.1]; omega
          have e2 : ((cr : Int) + p) / 1000000000 = ((bor ys bs f (k + 1) : Nat) : Int) := by rw [HK.out.2]; omega
          refine ⟨⟨k + 1, by omega, by go_num, ?_, ?_, ?_⟩, by simp [intOf]; omega⟩
          · rw [← e2]
          · have h := HSET.out (.int .i64 ((difAt ys bs f k : Nat) : Int))
            rw [nats_set, HUS.out, ← e1] at h
            exact h
          · exact grown_grown HG.out (HSG.out _)
      · have hgd : bs.getD k 0 = 0 := by
          have := HML.out
          simp [List.getElem?_eq_none (show bs.length ≤ k by omega)]
        have hk2 := KEY.out 0 (by omega) (by rw [hgd, Nat.zero_mul])
        rw [Nat.add_zero] at hk2
        clear hgd
        have hkmz : ¬ (k : Int) < (m : Int) := by omega
        by_cases hneg : y < cr % 1000000000
        · have HK := Lib.hid (hk2.1 hneg)
          clear hk2
          have hnegz : (y : Int) - (cr : Int) % 1000000000 < 0 := by omega
          go_wp2
          have e1 : (y : Int) - (cr : Int) % 1000000000 + 1000000000 = ((difAt ys bs f k : Nat) : Int) := by rw [HK.out.1]; omega
          have e2 : (cr : Int) / 1000000000 + 1 = ((bor ys bs f (k + 1) : Nat) : Int) := by rw [HK.out.2]; omega
          refine ⟨⟨k + 1, by omega, by go_num, ?_, ?_, ?_⟩, by simp [intOf]; omega⟩
          · rw [← e2]
          · have h := HW'.out.set2 (o + k) (.int .i64 ((y : Int) - (cr : Int) % 1000000000)) (.int .i64 ((difAt ys bs f k : Nat) : Int))
            rw [nats_set, HUS.out, ← e1] at h
            exact h
          · exact grown_grown HG.out (HW'.out.set2Grown _ _ _)
        · have HK := Lib.hid (hk2.2 hneg)
          clear hk2
          have hnegz : ¬ (y : Int) - (cr : Int) % 1000000000 < 0 := by omega
          go_wp2
          have e1 : (y : Int) - (cr : Int) % 1000000000 = ((difAt ys bs f k : Nat) : Int) := by rw [HK.out.1]; omega
          have e2 : (cr : Int) / 1000000000 = ((bor ys bs f (k + 1) : Nat) : Int) := by rw [HK.out.2]; omega
          refine ⟨⟨k + 1, by omega, by go_num, ?_, ?_, ?_⟩, by simp [intOf]; omega⟩
          · rw [← e2]
          · have h := HSET.out (.int .i64 ((difAt ys bs f k : Nat) : Int))
            rw [nats_set, HUS.out, ← e1] at h
            exact h
          · exact grown_grown HG.out (HSG.out _)
    · go_wp2
      go_ret
      obtain rfl : k = n := by omega
      exact ⟨rfl, HW'.out, HG.out⟩
end Go.Proofs.Ytdilbhkdkppodaa
