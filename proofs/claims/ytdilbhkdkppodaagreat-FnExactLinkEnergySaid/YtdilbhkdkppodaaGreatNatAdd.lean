/- Contracts of NatAdd, of the model (with l02Add, l02Cap) and of the program. Conditions: none. -/
import Derived.Test.YtdilbhkdkppodaaGreatProg
import Derived.Test.YtdilbhkdkppodaaGreatNatOk
import Derived.Test.YtdilbhkdkppodaaGreatNatOf
import Derived.Test.YtdilbhkdkppodaaGreatRow
namespace Go.Proofs.YtdilbhkdkppodaaGreat
open Go.RowKit Nt
set_option linter.unusedVariables false

theorem car_one (y b : List Nat) (k : Nat) (hy : Digs y) (hb : Digs b) : car y b 1 k ≤ 1 := by
  induction k with
  | zero => simp [car]
  | succ k ih =>
    have h1 := hy.getD k
    have h2 := hb.getD k
    simp only [car]
    omega
/-- The sum that a loop of addTimes leaves, where nothing is carried out. -/
theorem add_val (Y bs : List Nat) (f n : Nat) (hn : Y.length = n) (hb : bs.length ≤ n) (hlt : val Y + f * val bs < 1000000000 ^ n) : val ((List.range n).map (sumAt Y bs f)) = val Y + f * val bs ∧ car Y bs f n = 0 := by
  have h := car_sum Y bs f n
  rw [List.take_of_length_le (by omega), List.take_of_length_le hb] at h
  have h0 : car Y bs f n = 0 := by
    rcases Nat.eq_zero_or_pos (car Y bs f n) with h0 | h0
    · exact h0
    · have := Nat.le_mul_of_pos_right (1000000000 ^ n) h0
      omega
  rw [vs_range]
  rw [h0] at h
  exact ⟨by omega, h0⟩
theorem upd_all (Y : List Nat) (n : Nat) (F : Nat → Nat) (hn : Y.length = n) : upd Y 0 n F = (List.range n).map F := by
  simp [upd, List.drop_of_length_le (show Y.length ≤ n by omega)]
theorem val_pad (ds : List Nat) (k : Nat) : val (ds ++ List.replicate k 0) = val ds := by rw [val_append, val_zeros]; simp
theorem digs_pad {ds : List Nat} (h : Digs ds) (k : Nat) : Digs (ds ++ List.replicate k 0) := h.app (digs_replicate k)
/-- What NatAdd answers. -/
def addN (xs ys : List Int) : List Nat := if okI xs = true ∧ okI ys = true then capd (val (toN xs) + val (toN ys)) else []
theorem addN_len (xs ys : List Int) : (addN xs ys).length ≤ 60 := by unfold addN; split; exact capd_len _; simp
theorem addN_yes {xs ys : List Int} (h1 : okI xs = true) (h2 : okI ys = true) : addN xs ys = capd (val (toN xs) + val (toN ys)) := by rw [addN, if_pos ⟨h1, h2⟩]
theorem addN_no {xs ys : List Int} (h : okI xs = false ∨ okI ys = false) : addN xs ys = [] := by rw [addN, if_neg (by rintro ⟨h1, h2⟩; rcases h with h | h <;> simp_all)]

theorem OwnV.nil_cap {w : World} {base : Nat} {e : TypeId} {A : Option Addr} {n c : Nat} {xs : List Value} (h : OwnV w base e (.slice A n c) xs) : A = none → c = 0 := by
  rintro rfl
  rcases h with ⟨hv, _⟩ | ⟨g, c', ys, hv, _⟩
  · simp at hv; exact hv.2
  · simp at hv
/-- l02Trim at a row of one's own. -/
theorem l02Trim_own (base : Nat) (A : Option Addr) (n c : Nat) (ds : List Nat) (w : World) (h : OwnV w base 3 (.slice A n c) (nats ds)) (hd : Digs ds) :
    Calls Tryz.prog 106 #[.slice A n c] w fun e w' => e = .returned (.slice A (dig (val ds)).length c) ∧ OwnV w base 3 (.slice A (dig (val ds)).length c) (nats (dig (val ds))) ∧ w' = w := by
  have hl := h.len
  rw [nats_len] at hl
  have hk := dig_le_len hd
  have hc := h.cut (m := (dig (val ds)).length) (c2 := c) (by omega) (by have := h.cap.1; omega) (Nat.le_refl _)
  rw [nats_take, take_dig hd] at hc
  exact (l02Trim_any A n c ds w h.row hd h.cap.1 h.cap.2 h.nil_cap).mono fun e w' ⟨h1, h2⟩ => ⟨h1, hc, h2⟩
set_option maxRecDepth 100000 in
set_option maxHeartbeats 1000000 in
theorem l02Cap_own (base : Nat) (A : Option Addr) (n c : Nat) (ds : List Nat) (w : World) (h : OwnV w base 3 (.slice A n c) (nats ds)) (hd : Digs ds) :
    Calls Tryz.prog 132 #[.slice A n c] w fun e w' => (∃ v, e = .returned v ∧ OwnV w base 3 v (nats (capd (val ds)))) ∧ w' = w := by
  have hlen : (dig (val ds)).length ≤ 9223372036854775807 := by
    have h1 := h.len
    have h2 := h.cap
    have h3 := dig_le_len hd
    rw [nats_len] at h1
    unfold maxLen at h2
    omega
  have HH := Lib.hid h
  have HD := Lib.hid hd
  clear h hd
  go_enter Tryz.func132, Tryz.ntmps132
  go_wp2_with fail
  refine (l02Trim_own base A n c ds w HH.out HD.out).mono ?_
  rintro e w1 ⟨rfl, hc, rfl⟩
  have HC := Lib.hid hc
  have HK := Lib.hid (show capd (val ds) = if (dig (val ds)).length ≤ 60 then dig (val ds) else [] from rfl)
  clear hc
  by_cases h60 : (dig (val ds)).length ≤ 60
  · have e : capd (val ds) = dig (val ds) := by rw [HK.out, if_pos h60]
    have HE := Lib.hid e
    clear e
    generalize hm : (dig (val ds)).length = m at *
    have HM := Lib.hid hm
    clear hm
    go_wp2
    go_ret
    refine ⟨⟨_, rfl, ?_⟩, rfl⟩
    rw [HE.out]
    exact HC.out
  · have e : capd (val ds) = [] := by rw [HK.out, if_neg h60]
    have HE := Lib.hid e
    clear e
    generalize hm : (dig (val ds)).length = m at *
    have HM := Lib.hid hm
    clear hm
    go_wp2
    go_ret
    refine ⟨⟨_, rfl, ?_⟩, rfl⟩
    rw [HE.out]
    exact OwnV.nil _ _ _
set_option maxRecDepth 100000 in
set_option maxHeartbeats 2000000 in
theorem l02Add_any (A B : Option Addr) (n c m d : Nat) (ds es : List Nat) (w : World) (hA : VRow w A n (nats ds)) (hB : VRow w B m (nats es)) (hds : Digs ds) (hes : Digs es) (hn : n ≤ 1048576) (hm : m ≤ 1048576) :
    Calls Tryz.prog 129 #[.slice A n c, .slice B m d] w fun e w' => ∃ rs : List Nat, Digs rs ∧ val rs = val ds + val es ∧ OwnR 3 (nats rs) w e w' := by
  obtain ⟨i0, hi, hz0, hz1, hz2⟩ := info_parts info_int
  have HL := Lib.hid (show ds.length = n by simpa [nats_len] using hA.1)
  have HM := Lib.hid (show es.length = m by simpa [nats_len] using hB.1)
  have HA := Lib.hid hA
  have HBB := Lib.hid hB
  have HD := Lib.hid hds
  have HE := Lib.hid hes
  clear hA hB hds hes
  go_enter Tryz.func129, Tryz.ntmps129
  go_wp2
  go_loopw [5, 6, 7] (fun v cr i wr => ∃ k : Nat, (k ≤ n ∨ k ≤ m ∨ (k ≤ max n m + 1)) ∧ i = .int .i64 k ∧ cr = .int .i64 (car ds es 1 k : Nat) ∧ (k = max n m + 1 → car ds es 1 k = 0) ∧ wr.ownsRow w.heap.size 3 1 v k (nats ((List.range k).map (sumAt ds es 1))) ∧ Below w.heap.size w wr) (fun _ cr i _ => 2 * (max n m - (intOf i).toNat) + (intOf cr).toNat)
  case atStart => exact ⟨0, by omega, rfl, rfl, fun h => absurd h (by omega), World.ownsRow_made w #[] 0 (Nat.le_refl _) (Nat.zero_le _) rfl, (Below.refl _ _).alloc (Nat.le_refl _) _⟩
  case round =>
    obtain ⟨k, hk, rfl, rfl, hlast, ho, hb⟩ := hrel
    have HO := Lib.hid ho
    have HB := Lib.hid hb
    clear ho hb
    have hcb := car_one ds es k HD.out HE.out
    have hcb2 := car_one ds es (k + 1) HD.out HE.out
    have hsum : sumAt ds es 1 k = (ds.getD k 0 + car ds es 1 k + es.getD k 0 * 1) % 1000000000 := rfl
    have hcar : car ds es 1 (k + 1) = (ds.getD k 0 + car ds es 1 k + es.getD k 0 * 1) / 1000000000 := rfl
    have hfin : ¬ k < n → ¬ k < m → car ds es 1 (k + 1) = 0 := by
      intro h1 h2
      have e1 : ds.getD k 0 = 0 := by have := HL.out; simp [List.getElem?_eq_none (show ds.length ≤ k by omega)]
      have e2 : es.getD k 0 = 0 := by have := HM.out; simp [List.getElem?_eq_none (show es.length ≤ k by omega)]
      rw [hcar, e1, e2]
      omega
    have HC1 := Lib.hid (show k + 1 = max n m + 1 → car ds es 1 (k + 1) = 0 from fun h => hfin (by omega) (by omega))
    have HFIN := Lib.hid hfin
    have HC1Z := Lib.hid hcb2
    have HLAST := Lib.hid hlast
    clear hfin hcb2 hlast
    obtain ⟨cr, hcr⟩ : ∃ cr, car ds es 1 k = cr := ⟨_, rfl⟩
    rw [hcr] at hcb hsum hcar HLAST ⊢
    have HCR := Lib.hid hcr
    clear hcr
    by_cases h1 : k < n
    · by_cases h2 : k < m
      · obtain ⟨ga, oa, rfl, hga, hca⟩ := (HA.out.below HB.out (Nat.le_refl _)).at_ h1
        rw [nats_get] at hca
        have hxl : k < ds.length := by have := HL.out; omega
        obtain ⟨x, hx⟩ : ∃ x, ds[k] = x := ⟨_, rfl⟩
        have hxb : x < 1000000000 := hx ▸ HD.out.get hxl
        have hgdx : ds.getD k 0 = x := by rw [← hx]; simp [hxl]
        rw [hx] at hca
        rw [hgdx] at hsum hcar
        clear hx hgdx
        obtain ⟨gb, ob, rfl, hgb, hcb⟩ := (HBB.out.below HB.out (Nat.le_refl _)).at_ h2
        rw [nats_get] at hcb
        have hyl : k < es.length := by have := HM.out; omega
        obtain ⟨y, hy⟩ : ∃ x, es[k] = x := ⟨_, rfl⟩
        have hyb : y < 1000000000 := hy ▸ HE.out.get hyl
        have hgdy : es.getD k 0 = y := by rw [← hy]; simp [hyl]
        rw [hy] at hcb
        rw [hgdy] at hsum hcar
        clear hy hgdy
        have HSUM := Lib.hid hsum
        have HCAR := Lib.hid hcar
        clear hsum hcar
        have h1z : (k : Int) < (n : Int) := by omega
        have h2z : (k : Int) < (m : Int) := by omega
        have HK2 := Lib.hid (show k + 1 ≤ n ∨ k + 1 ≤ m ∨ k + 1 ≤ max n m + 1 by have := HLAST.out; omega)
        have HCELL := Lib.hid (cell_new wr (.int .i64 (((cr : Int) + x + y) % 1000000000)) 3)
        go_wp2_with (at_builtin; refine wpList_append_own _ rfl (.tmp 47) (.tmp 50) 22 rfl w.heap.size 3 i0 _ 1 8 Tryz.underlying22 hi hz0 hz1 hz2 rfl (by decide) u5 k (nats ((List.range k).map (sumAt ds es 1))) rfl (HO.out.alloc _) ⟨wr.heap.size, 0, none⟩ 1 1 [.int .i64 (((cr : Int) + x + y) % 1000000000)] rfl rfl HCELL.out (by simp [Value.oneCell']) (by unfold maxLen; omega) (by omega) (by have := HB.out.size; simp; omega) ?_; intro v' w4 hown' hgrow _)
        have HW := Lib.hid hown'
        have HG := Lib.hid hgrow
        clear hown' hgrow
        have e1 : ((cr : Int) + x + y) % 1000000000 = ((sumAt ds es 1 k : Nat) : Int) := by rw [HSUM.out]; omega
        have e2 : ((cr : Int) + x + y) / 1000000000 = ((car ds es 1 (k + 1) : Nat) : Int) := by rw [HCAR.out]; omega
        have HE1 := Lib.hid e1
        have HE2 := Lib.hid e2
        clear e1 e2
        go_wp2
        refine ⟨⟨k + 1, HK2.out, by go_num, by rw [← HE2.out], HC1.out, ?_, ?_⟩, by have := HC1.out; have := HC1Z.out; simp [intOf]; omega⟩
        · have h := HW.out
          rw [HE1.out] at h
          have e3 : nats ((List.range (k + 1)).map (sumAt ds es 1)) = nats ((List.range k).map (sumAt ds es 1)) ++ [.int .i64 ((sumAt ds es 1 k : Nat) : Int)] := by rw [List.range_succ, List.map_append, nats_app]; rfl
          rw [e3]
          exact h
        · exact (HB.out.alloc HB.out.size _).grown HG.out (by have := HB.out.size; simp; omega) (fun j hj => (HO.out.lt j hj).1)
      · obtain ⟨ga, oa, rfl, hga, hca⟩ := (HA.out.below HB.out (Nat.le_refl _)).at_ h1
        rw [nats_get] at hca
        have hxl : k < ds.length := by have := HL.out; omega
        obtain ⟨x, hx⟩ : ∃ x, ds[k] = x := ⟨_, rfl⟩
        have hxb : x < 1000000000 := hx ▸ HD.out.get hxl
        have hgdx : ds.getD k 0 = x := by rw [← hx]; simp [hxl]
        rw [hx] at hca
        rw [hgdx] at hsum hcar
        clear hx hgdx
        have hgdy : es.getD k 0 = 0 := by
          have := HM.out
          simp [List.getElem?_eq_none (show es.length ≤ k by omega)]
        rw [hgdy] at hsum hcar
        clear hgdy
        have HSUM := Lib.hid hsum
        have HCAR := Lib.hid hcar
        clear hsum hcar
        have h1z : (k : Int) < (n : Int) := by omega
        have h2z : ¬ (k : Int) < (m : Int) := by omega
        have HK2 := Lib.hid (show k + 1 ≤ n ∨ k + 1 ≤ m ∨ k + 1 ≤ max n m + 1 by have := HLAST.out; omega)
        have HCELL := Lib.hid (cell_new wr (.int .i64 (((cr : Int) + x) % 1000000000)) 3)
        go_wp2_with (at_builtin; refine wpList_append_own _ rfl (.tmp 47) (.tmp 50) 22 rfl w.heap.size 3 i0 _ 1 8 Tryz.underlying22 hi hz0 hz1 hz2 rfl (by decide) u5 k (nats ((List.range k).map (sumAt ds es 1))) rfl (HO.out.alloc _) ⟨wr.heap.size, 0, none⟩ 1 1 [.int .i64 (((cr : Int) + x) % 1000000000)] rfl rfl HCELL.out (by simp [Value.oneCell']) (by unfold maxLen; omega) (by omega) (by have := HB.out.size; simp; omega) ?_; intro v' w4 hown' hgrow _)
        have HW := Lib.hid hown'
        have HG := Lib.hid hgrow
        clear hown' hgrow
        have e1 : ((cr : Int) + x) % 1000000000 = ((sumAt ds es 1 k : Nat) : Int) := by rw [HSUM.out]; omega
        have e2 : ((cr : Int) + x) / 1000000000 = ((car ds es 1 (k + 1) : Nat) : Int) := by rw [HCAR.out]; omega
        have HE1 := Lib.hid e1
        have HE2 := Lib.hid e2
        clear e1 e2
        go_wp2
        refine ⟨⟨k + 1, HK2.out, by go_num, by rw [← HE2.out], HC1.out, ?_, ?_⟩, by have := HC1.out; have := HC1Z.out; simp [intOf]; omega⟩
        · have h := HW.out
          rw [HE1.out] at h
          have e3 : nats ((List.range (k + 1)).map (sumAt ds es 1)) = nats ((List.range k).map (sumAt ds es 1)) ++ [.int .i64 ((sumAt ds es 1 k : Nat) : Int)] := by rw [List.range_succ, List.map_append, nats_app]; rfl
          rw [e3]
          exact h
        · exact (HB.out.alloc HB.out.size _).grown HG.out (by have := HB.out.size; simp; omega) (fun j hj => (HO.out.lt j hj).1)
    · by_cases h2 : k < m
      · have hgdx : ds.getD k 0 = 0 := by
          have := HL.out
          simp [List.getElem?_eq_none (show ds.length ≤ k by omega)]
        rw [hgdx] at hsum hcar
        clear hgdx
        obtain ⟨gb, ob, rfl, hgb, hcb⟩ := (HBB.out.below HB.out (Nat.le_refl _)).at_ h2
        rw [nats_get] at hcb
        have hyl : k < es.length := by have := HM.out; omega
        obtain ⟨y, hy⟩ : ∃ x, es[k] = x := ⟨_, rfl⟩
        have hyb : y < 1000000000 := hy ▸ HE.out.get hyl
        have hgdy : es.getD k 0 = y := by rw [← hy]; simp [hyl]
        rw [hy] at hcb
        rw [hgdy] at hsum hcar
        clear hy hgdy
        have HSUM := Lib.hid hsum
        have HCAR := Lib.hid hcar
        clear hsum hcar
        have h1z : ¬ (k : Int) < (n : Int) := by omega
        have h2z : (k : Int) < (m : Int) := by omega
        have HK2 := Lib.hid (show k + 1 ≤ n ∨ k + 1 ≤ m ∨ k + 1 ≤ max n m + 1 by have := HLAST.out; omega)
        have HCELL := Lib.hid (cell_new wr (.int .i64 (((cr : Int) + y) % 1000000000)) 3)
        go_wp2_with (at_builtin; refine wpList_append_own _ rfl (.tmp 47) (.tmp 50) 22 rfl w.heap.size 3 i0 _ 1 8 Tryz.underlying22 hi hz0 hz1 hz2 rfl (by decide) u5 k (nats ((List.range k).map (sumAt ds es 1))) rfl (HO.out.alloc _) ⟨wr.heap.size, 0, none⟩ 1 1 [.int .i64 (((cr : Int) + y) % 1000000000)] rfl rfl HCELL.out (by simp [Value.oneCell']) (by unfold maxLen; omega) (by omega) (by have := HB.out.size; simp; omega) ?_; intro v' w4 hown' hgrow _)
        have HW := Lib.hid hown'
        have HG := Lib.hid hgrow
        clear hown' hgrow
        have e1 : ((cr : Int) + y) % 1000000000 = ((sumAt ds es 1 k : Nat) : Int) := by rw [HSUM.out]; omega
        have e2 : ((cr : Int) + y) / 1000000000 = ((car ds es 1 (k + 1) : Nat) : Int) := by rw [HCAR.out]; omega
        have HE1 := Lib.hid e1
        have HE2 := Lib.hid e2
        clear e1 e2
        go_wp2
        refine ⟨⟨k + 1, HK2.out, by go_num, by rw [← HE2.out], HC1.out, ?_, ?_⟩, by have := HC1.out; have := HC1Z.out; simp [intOf]; omega⟩
        · have h := HW.out
          rw [HE1.out] at h
          have e3 : nats ((List.range (k + 1)).map (sumAt ds es 1)) = nats ((List.range k).map (sumAt ds es 1)) ++ [.int .i64 ((sumAt ds es 1 k : Nat) : Int)] := by rw [List.range_succ, List.map_append, nats_app]; rfl
          rw [e3]
          exact h
        · exact (HB.out.alloc HB.out.size _).grown HG.out (by have := HB.out.size; simp; omega) (fun j hj => (HO.out.lt j hj).1)
      · by_cases h3 : 0 < cr
        · have hgdx : ds.getD k 0 = 0 := by
            have := HL.out
            simp [List.getElem?_eq_none (show ds.length ≤ k by omega)]
          rw [hgdx] at hsum hcar
          clear hgdx
          have hgdy : es.getD k 0 = 0 := by
            have := HM.out
            simp [List.getElem?_eq_none (show es.length ≤ k by omega)]
          rw [hgdy] at hsum hcar
          clear hgdy
          have HSUM := Lib.hid hsum
          have HCAR := Lib.hid hcar
          clear hsum hcar
          have h1z : ¬ (k : Int) < (n : Int) := by omega
          have h2z : ¬ (k : Int) < (m : Int) := by omega
          have HK2 := Lib.hid (show k + 1 ≤ n ∨ k + 1 ≤ m ∨ k + 1 ≤ max n m + 1 by have := HLAST.out; omega)
          have HCELL := Lib.hid (cell_new wr (.int .i64 (((cr : Int)) % 1000000000)) 3)
          go_wp2_with (at_builtin; refine wpList_append_own _ rfl (.tmp 47) (.tmp 50) 22 rfl w.heap.size 3 i0 _ 1 8 Tryz.underlying22 hi hz0 hz1 hz2 rfl (by decide) u5 k (nats ((List.range k).map (sumAt ds es 1))) rfl (HO.out.alloc _) ⟨wr.heap.size, 0, none⟩ 1 1 [.int .i64 (((cr : Int)) % 1000000000)] rfl rfl HCELL.out (by simp [Value.oneCell']) (by unfold maxLen; omega) (by omega) (by have := HB.out.size; simp; omega) ?_; intro v' w4 hown' hgrow _)
          have HW := Lib.hid hown'
          have HG := Lib.hid hgrow
          clear hown' hgrow
          have e1 : ((cr : Int)) % 1000000000 = ((sumAt ds es 1 k : Nat) : Int) := by rw [HSUM.out]; omega
          have e2 : ((cr : Int)) / 1000000000 = ((car ds es 1 (k + 1) : Nat) : Int) := by rw [HCAR.out]; omega
          have HE1 := Lib.hid e1
          have HE2 := Lib.hid e2
          clear e1 e2
          go_wp2
          refine ⟨⟨k + 1, HK2.out, by go_num, by rw [← HE2.out], HC1.out, ?_, ?_⟩, by have := HC1.out; have := HC1Z.out; simp [intOf]; omega⟩
          · have h := HW.out
            rw [HE1.out] at h
            have e3 : nats ((List.range (k + 1)).map (sumAt ds es 1)) = nats ((List.range k).map (sumAt ds es 1)) ++ [.int .i64 ((sumAt ds es 1 k : Nat) : Int)] := by rw [List.range_succ, List.map_append, nats_app]; rfl
            rw [e3]
            exact h
          · exact (HB.out.alloc HB.out.size _).grown HG.out (by have := HB.out.size; simp; omega) (fun j hj => (HO.out.lt j hj).1)
        · obtain rfl : cr = 0 := by omega
          clear hsum hcar
          have h1z : ¬ (k : Int) < (n : Int) := by omega
          have h2z : ¬ (k : Int) < (m : Int) := by omega
          go_wp2
          go_ret
          refine ⟨(List.range k).map (sumAt ds es 1), sumAt_digs _ _ _ _, ?_, _, rfl, OwnV.of_own HO.out, HB.out⟩
          have h := car_sum ds es 1 k
          have := HL.out
          have := HM.out
          rw [HCR.out, List.take_of_length_le (by omega), List.take_of_length_le (by omega)] at h
          rw [vs_range]
          omega
set_option maxRecDepth 100000 in
set_option maxHeartbeats 2000000 in
theorem natAdd_impl (A B : Option Addr) (n c m d : Nat) (xs ys : List Int) (w : World) (hA : VRow w A n (ints xs)) (hB : VRow w B m (ints ys)) (hn : n ≤ maxLen) (hm : m ≤ maxLen) :
    Calls Tryz.prog 143 #[.slice A n c, .slice B m d] w (OwnR 3 (nats (addN xs ys)) w) := by
  have HA := Lib.hid hA
  have HB := Lib.hid hB
  clear hA hB
  cases hx : okI xs with
  | false =>
    have HEQ := Lib.hid (addN_no (xs := xs) (ys := ys) (.inl hx))
    go_enter Tryz.func143, Tryz.ntmps143
    go_wp2_with fail
    refine (natOk_impl _ _ _ xs _ HA.out hn).mono ?_
    rintro e w1 ⟨rfl, hb⟩
    rw [hx]
    have HB1 := Lib.hid hb
    clear hb
    go_wp2
    go_ret
    rw [HEQ.out]
    exact ⟨_, rfl, OwnV.nil _ _ _, HB1.out⟩
  | true =>
    obtain ⟨hxn, hxc, hxl⟩ := okI_nats hx
    go_enter Tryz.func143, Tryz.ntmps143
    go_wp2_with fail
    refine (natOk_impl _ _ _ xs _ HA.out hn).mono ?_
    rintro e w1 ⟨rfl, hb⟩
    rw [hx]
    have HB1 := Lib.hid hb
    clear hb
    go_wp2_with fail
    refine (natOk_impl _ _ _ ys _ (HB.out.below HB1.out (Nat.le_refl _)) hm).mono ?_
    rintro e w2 ⟨rfl, hb⟩
    have HB2 := Lib.hid (HB1.out.trans (hb.mono HB1.out.size))
    clear hb
    cases hy : okI ys with
    | false =>
      have HEQ := Lib.hid (addN_no (xs := xs) (ys := ys) (.inr hy))
      go_wp2
      go_ret
      rw [HEQ.out]
      exact ⟨_, rfl, OwnV.nil _ _ _, HB2.out⟩
    | true =>
      obtain ⟨hyn, hyc, hyl⟩ := okI_nats hy
      have hA2 := HA.out.below HB2.out (Nat.le_refl _)
      have hBB2 := HB.out.below HB2.out (Nat.le_refl _)
      rw [hxn] at hA2
      rw [hyn] at hBB2
      have HEQ := Lib.hid (addN_yes hx hy)
      clear hxn hyn hx hy HA HB HB1
      generalize toN xs = ds at *
      generalize toN ys = es at *
      have HL := Lib.hid (show ds.length = n by simpa [nats_len] using hA2.1)
      have HM := Lib.hid (show es.length = m by simpa [nats_len] using hBB2.1)
      have hn60 : n ≤ 60 := by have := HL.out; omega
      have hm60 : m ≤ 60 := by have := HM.out; omega
      have HX := Lib.hid hxc
      have HY := Lib.hid hyc
      have HA2 := Lib.hid hA2
      have HBB2 := Lib.hid hBB2
      clear hxc hyc hA2 hBB2 hn hm hxl hyl
      by_cases hnm : n < m
      · go_wp2_with fail
        refine (rowOf_any _ n c (m + 1) _ (by first | rfl | omega) ds _ HA2.out (by omega) (by omega)).mono ?_
        rintro e w3 ⟨rfl, hw3, hb3⟩
        obtain ⟨Y, hY⟩ : ∃ Y, Y = ds ++ List.replicate (m + 1 - n) 0 := ⟨_, rfl⟩
        rw [← hY] at hw3
        have hYl : Y.length = m + 1 := by rw [hY, List.length_append, List.length_replicate, HL.out]; omega
        have hYv : val Y = val ds := by rw [hY, val_pad]
        have hYd : Digs Y := by rw [hY]; exact digs_pad HX.out.1 _
        obtain ⟨r, hr⟩ : ∃ r, m + 1 = r := ⟨_, rfl⟩
        have hrn : n < r ∧ m < r ∧ r ≤ 61 := by omega
        rw [hr] at hYl ⊢
        have HYL := Lib.hid hYl
        have HYV := Lib.hid hYv
        have HYD := Lib.hid hYd
        have HW3 := Lib.hid hw3
        have HB3 := Lib.hid (HB2.out.trans (hb3.mono HB2.out.size))
        have HBB3 := Lib.hid (HBB2.out.below hb3 (Nat.le_refl _))
        have HOFF := Lib.hid (HBB2.out.off (Nat.le_refl _))
        have HSZ := Lib.hid hb3.size
        clear hw3 hb3 hY hYl hYv hYd hr
        go_wp2_with fail
        refine (addTimes_any _ _ r r _ Y _ m d es 1 _ (by first | rfl | omega) _ HW3.out (by rw [HYL.out]; omega) HYD.out HBB3.out HOFF.out HY.out.1 (by omega) (by omega) (by omega)).mono ?_
        rintro e w4 ⟨rfl, hw4, hg4⟩
        rw [List.drop_zero, List.take_of_length_le (by rw [HYL.out]; exact Nat.le_refl _), upd_all _ _ _ HYL.out] at hw4
        have HW4 := Lib.hid hw4
        have HB4 := Lib.hid (HB3.out.grown hg4 HB3.out.size (fun k hk => by have := HW3.out.lt.1; have := HB2.out.size; simp at hk; omega))
        clear hw4 hg4
        go_wp2_with fail
        refine (natOrNil_any _ r _ _ (by simp) _ HW4.out (sumAt_digs _ _ _ _) (by omega)).mono ?_
        rintro e w5 ⟨⟨v, rfl, ho, _⟩, rfl⟩
        have HO := Lib.hid ho
        clear ho
        go_wp2
        go_ret
        refine ⟨_, rfl, ?_, HB4.out⟩
        have h1 : val ds < 1000000000 ^ (r - 1) := Nat.lt_of_lt_of_le (val_lt HX.out.1) (Nat.pow_le_pow_right (by decide) (by have := HL.out; omega))
        have h2 : val es < 1000000000 ^ (r - 1) := Nat.lt_of_lt_of_le (val_lt HY.out.1) (Nat.pow_le_pow_right (by decide) (by have := HM.out; omega))
        have h3 : 1000000000 ^ r = 1000000000 ^ (r - 1) * 1000000000 := by rw [← Nat.pow_succ]; congr 1; omega
        have hv := (add_val Y es 1 r HYL.out (by have := HM.out; omega) (by rw [HYV.out, h3]; omega)).1
        rw [HYV.out, Nat.one_mul] at hv
        rw [HEQ.out, ← hv]
        exact HO.out.based HB2.out.size
      · go_wp2_with fail
        refine (rowOf_any _ n c (n + 1) _ (by first | rfl | omega) ds _ HA2.out (by omega) (by omega)).mono ?_
        rintro e w3 ⟨rfl, hw3, hb3⟩
        obtain ⟨Y, hY⟩ : ∃ Y, Y = ds ++ List.replicate (n + 1 - n) 0 := ⟨_, rfl⟩
        rw [← hY] at hw3
        have hYl : Y.length = n + 1 := by rw [hY, List.length_append, List.length_replicate, HL.out]; omega
        have hYv : val Y = val ds := by rw [hY, val_pad]
        have hYd : Digs Y := by rw [hY]; exact digs_pad HX.out.1 _
        obtain ⟨r, hr⟩ : ∃ r, n + 1 = r := ⟨_, rfl⟩
        have hrn : n < r ∧ m < r ∧ r ≤ 61 := by omega
        rw [hr] at hYl ⊢
        have HYL := Lib.hid hYl
        have HYV := Lib.hid hYv
        have HYD := Lib.hid hYd
        have HW3 := Lib.hid hw3
        have HB3 := Lib.hid (HB2.out.trans (hb3.mono HB2.out.size))
        have HBB3 := Lib.hid (HBB2.out.below hb3 (Nat.le_refl _))
        have HOFF := Lib.hid (HBB2.out.off (Nat.le_refl _))
        have HSZ := Lib.hid hb3.size
        clear hw3 hb3 hY hYl hYv hYd hr
        go_wp2_with fail
        refine (addTimes_any _ _ r r _ Y _ m d es 1 _ (by first | rfl | omega) _ HW3.out (by rw [HYL.out]; omega) HYD.out HBB3.out HOFF.out HY.out.1 (by omega) (by omega) (by omega)).mono ?_
        rintro e w4 ⟨rfl, hw4, hg4⟩
        rw [List.drop_zero, List.take_of_length_le (by rw [HYL.out]; exact Nat.le_refl _), upd_all _ _ _ HYL.out] at hw4
        have HW4 := Lib.hid hw4
        have HB4 := Lib.hid (HB3.out.grown hg4 HB3.out.size (fun k hk => by have := HW3.out.lt.1; have := HB2.out.size; simp at hk; omega))
        clear hw4 hg4
        go_wp2_with fail
        refine (natOrNil_any _ r _ _ (by simp) _ HW4.out (sumAt_digs _ _ _ _) (by omega)).mono ?_
        rintro e w5 ⟨⟨v, rfl, ho, _⟩, rfl⟩
        have HO := Lib.hid ho
        clear ho
        go_wp2
        go_ret
        refine ⟨_, rfl, ?_, HB4.out⟩
        have h1 : val ds < 1000000000 ^ (r - 1) := Nat.lt_of_lt_of_le (val_lt HX.out.1) (Nat.pow_le_pow_right (by decide) (by have := HL.out; omega))
        have h2 : val es < 1000000000 ^ (r - 1) := Nat.lt_of_lt_of_le (val_lt HY.out.1) (Nat.pow_le_pow_right (by decide) (by have := HM.out; omega))
        have h3 : 1000000000 ^ r = 1000000000 ^ (r - 1) * 1000000000 := by rw [← Nat.pow_succ]; congr 1; omega
        have hv := (add_val Y es 1 r HYL.out (by have := HM.out; omega) (by rw [HYV.out, h3]; omega)).1
        rw [HYV.out, Nat.one_mul] at hv
        rw [HEQ.out, ← hv]
        exact HO.out.based HB2.out.size
end Go.Proofs.YtdilbhkdkppodaaGreat
