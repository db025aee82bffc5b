/- Contracts of NatSub, of the model (with l02Sub) and of the program. Conditions: none. -/
import Derived.Test.YtdilbhkdkppodaaProg
import Derived.Test.YtdilbhkdkppodaaNatCmp
import Derived.Test.YtdilbhkdkppodaaNatAdd
namespace Go.Proofs.Ytdilbhkdkppodaa
open Go.RowKit Nt
set_option linter.unusedVariables false

theorem bor_one (y b : List Nat) (k : Nat) (hy : Digs y) (hb : Digs b) : bor y b 1 k ≤ 1 := by
  induction k with
  | zero => simp [bor]
  | succ k ih =>
    have h2 := hb.getD k
    have h1 := hy.getD k
    simp only [bor]
    split <;> omega
theorem dif_one (y b : List Nat) (k : Nat) (hy : Digs y) (hb : Digs b) : (y.getD k 0 < bor y b 1 k + b.getD k 0 → difAt y b 1 k = y.getD k 0 + 1000000000 - (bor y b 1 k + b.getD k 0) ∧ bor y b 1 (k + 1) = 1) ∧ (¬ y.getD k 0 < bor y b 1 k + b.getD k 0 → difAt y b 1 k = y.getD k 0 - (bor y b 1 k + b.getD k 0) ∧ bor y b 1 (k + 1) = 0) := by
  have h0 := bor_one y b k hy hb
  have h2 := hb.getD k
  have h1 := hy.getD k
  simp only [bor, difAt, Nat.mul_one]
  generalize y.getD k 0 = u at *
  generalize b.getD k 0 = v at *
  generalize bor y b 1 k = s at *
  constructor
  · intro h
    by_cases h3 : s + v = 1000000000
    · rw [h3]; constructor <;> simp
    · have e : (s + v) % 1000000000 = s + v := Nat.mod_eq_of_lt (by omega)
      have e2 : (s + v) / 1000000000 = 0 := Nat.div_eq_of_lt (by omega)
      rw [e, e2, if_pos h, if_pos h]; omega
  · intro h
    have e : (s + v) % 1000000000 = s + v := Nat.mod_eq_of_lt (by omega)
    have e2 : (s + v) / 1000000000 = 0 := Nat.div_eq_of_lt (by omega)
    rw [e, e2, if_neg h, if_neg h]; omega
/-- The difference that a loop of subtractTimes leaves, where nothing is owed. -/
theorem sub_val (Y bs : List Nat) (f n : Nat) (hY : Digs Y) (hn : Y.length = n) (hb : bs.length ≤ n) (hle : f * val bs ≤ val Y) : val ((List.range n).map (difAt Y bs f)) = val Y - f * val bs ∧ bor Y bs f n = 0 := by
  have h := bor_sum Y bs f n
  rw [List.take_of_length_le hb, List.take_of_length_le (show Y.length ≤ n by omega)] at h
  have hlt := val_lt (difAt_digs Y bs f n hY)
  rw [List.length_map, List.length_range, vs_range] at hlt
  have h0 : bor Y bs f n = 0 := by
    rcases Nat.eq_zero_or_pos (bor Y bs f n) with h0 | h0
    · exact h0
    · have := Nat.le_mul_of_pos_right (1000000000 ^ n) h0
      omega
  rw [vs_range]
  rw [h0] at h
  exact ⟨by omega, h0⟩
theorem canon_len {a b : List Nat} (ha : Canon a) (hb : Digs b) (h : val a ≤ val b) : a.length ≤ b.length := by
  rcases Nat.lt_or_ge b.length a.length with h1 | h1
  · have := val_lt_len hb ha h1; omega
  · exact h1
/-- What NatSub answers. -/
def subN (xs ys : List Int) : List Nat := if okI xs = true ∧ okI ys = true then dig (val (toN xs) - val (toN ys)) else []
theorem subN_yes {xs ys : List Int} (h1 : okI xs = true) (h2 : okI ys = true) : subN xs ys = dig (val (toN xs) - val (toN ys)) := by rw [subN, if_pos ⟨h1, h2⟩]
theorem subN_no {xs ys : List Int} (h : okI xs = false ∨ okI ys = false) : subN xs ys = [] := by rw [subN, if_neg (by rintro ⟨h1, h2⟩; rcases h with h | h <;> simp_all)]
theorem subN_len (xs ys : List Int) : (subN xs ys).length ≤ 60 := by
  unfold subN
  split
  · rename_i h
    obtain ⟨_, h1, h2⟩ := okI_nats h.1
    refine dig_len (Nat.lt_of_le_of_lt (Nat.sub_le _ _) (Nat.lt_of_lt_of_le (val_lt h1.1) (Nat.pow_le_pow_right (by decide) h2)))
  · simp
theorem cmpI_nats (ds es : List Nat) (h1 : Canon ds) (h2 : Canon es) (h3 : ds.length ≤ 60) (h4 : es.length ≤ 60) : cmpI (ds.map fun d : Nat => (d : Int)) (es.map fun d : Nat => (d : Int)) = sgn (val ds) (val es) := by
  rw [cmpI, if_pos ⟨okI_of_nats h1 h3, okI_of_nats h2 h4⟩, toN_nats, toN_nats]
set_option maxRecDepth 100000 in
set_option maxHeartbeats 2000000 in
theorem l02Sub_any (A B : Option Addr) (n c m d : Nat) (ds es : List Nat) (w : World) (hA : VRow w A n (nats ds)) (hB : VRow w B m (nats es)) (hds : Digs ds) (hes : Digs es) (hmn : m ≤ n) (hle : val es ≤ val ds) (hn : n ≤ 1048576) :
    Calls Try.prog 83 #[.slice A n c, .slice B m d] w (OwnR 3 (nats (dig (val ds - val es))) w) := by
  obtain ⟨i0, hi, hz0, hz1, hz2⟩ := info_parts info_int
  have HL := Lib.hid (show ds.length = n by simpa [nats_len] using hA.1)
  have HM := Lib.hid (show es.length = m by simpa [nats_len] using hB.1)
  have HA := Lib.hid hA
  have HBB := Lib.hid hB
  have HD := Lib.hid hds
  have HE := Lib.hid hes
  have HLE := Lib.hid hle
  clear hA hB hds hes hle
  go_enter Try.func83, Try.ntmps83
  go_wp2
  go_loopw [5, 6, 12] (fun v cr i wr => ∃ k : Nat, k ≤ n ∧ i = .int .i64 k ∧ cr = .int .i64 (bor ds es 1 k : Nat) ∧ wr.ownsRow w.heap.size 3 1 v k (nats ((List.range k).map (difAt ds es 1))) ∧ Below w.heap.size w wr) (fun _ _ i _ => n - (intOf i).toNat)
  case atStart => exact ⟨0, by omega, rfl, rfl, World.ownsRow_made w #[] 0 (Nat.le_refl _) (Nat.zero_le _) rfl, (Below.refl _ _).alloc (Nat.le_refl _) _⟩
  case round =>
    obtain ⟨k, hk, rfl, rfl, ho, hb⟩ := hrel
    have HO := Lib.hid ho
    have HB := Lib.hid hb
    clear ho hb
    by_cases h1 : k < n
    · have hcb := bor_one ds es k HD.out HE.out
      have hdif := dif_one ds es k HD.out HE.out
      obtain ⟨ga, oa, rfl, hga, hca⟩ := (HA.out.below HB.out (Nat.le_refl _)).at_ h1
      rw [nats_get] at hca
      have hxl : k < ds.length := by have := HL.out; omega
      obtain ⟨x, hx⟩ : ∃ x, ds[k] = x := ⟨_, rfl⟩
      have hxb : x < 1000000000 := hx ▸ HD.out.get hxl
      have hgdx : ds.getD k 0 = x := by rw [← hx]; simp [hxl]
      rw [hx] at hca
      rw [hgdx] at hdif
      clear hx hgdx
      obtain ⟨cr, hcr⟩ : ∃ cr, bor ds es 1 k = cr := ⟨_, rfl⟩
      rw [hcr] at hcb hdif ⊢
      clear hcr
      have h1z : (k : Int) < (n : Int) := by omega
      by_cases h2 : k < m
      · obtain ⟨gb, ob, rfl, hgb, hcb⟩ := (HBB.out.below HB.out (Nat.le_refl _)).at_ h2
        rw [nats_get] at hcb
        have hyl : k < es.length := by have := HM.out; omega
        obtain ⟨y, hy⟩ : ∃ x, es[k] = x := ⟨_, rfl⟩
        have hyb : y < 1000000000 := hy ▸ HE.out.get hyl
        have hgdy : es.getD k 0 = y := by rw [← hy]; simp [hyl]
        rw [hy] at hcb
        rw [hgdy] at hdif
        clear hy hgdy
        have h2z : (k : Int) < (m : Int) := by omega
        by_cases hneg : x < cr + y
        · have HK := Lib.hid (hdif.1 hneg)
          clear hdif
          have hnz : (x : Int) - cr - y < 0 := by omega
          have HCELL := Lib.hid (cell_new wr (.int .i64 ((x : Int) - cr - y + 1000000000)) 3)
          go_wp2_with (at_builtin; refine wpList_append_own _ rfl (.tmp 35) (.tmp 37) 22 rfl w.heap.size 3 i0 _ 1 8 Try.underlying22 hi hz0 hz1 hz2 rfl (by decide) u5 k (nats ((List.range k).map (difAt ds es 1))) rfl (HO.out.alloc _) ⟨wr.heap.size, 0, none⟩ 1 1 [.int .i64 ((x : Int) - cr - y + 1000000000)] rfl rfl HCELL.out (by simp [Value.oneCell']) (by unfold maxLen; omega) (by omega) (by have := HB.out.size; simp; omega) ?_; intro v' w4 hown' hgrow _)
          have HW := Lib.hid hown'
          have HG := Lib.hid hgrow
          clear hown' hgrow
          have HE1 := Lib.hid (show (x : Int) - cr - y + 1000000000 = ((difAt ds es 1 k : Nat) : Int) by rw [HK.out.1]; omega)
          go_wp2
          refine ⟨⟨k + 1, by omega, by go_num, by rw [HK.out.2]; rfl, ?_, ?_⟩, by simp [intOf]; omega⟩
          · have h := HW.out
            rw [HE1.out] at h
            have e3 : nats ((List.range (k + 1)).map (difAt ds es 1)) = nats ((List.range k).map (difAt ds es 1)) ++ [.int .i64 ((difAt ds es 1 k : Nat) : Int)] := by rw [List.range_succ, List.map_append, nats_app]; rfl
            rw [e3]
            exact h
          · exact (HB.out.alloc HB.out.size _).grown HG.out (by have := HB.out.size; simp; omega) (fun j hj => (HO.out.lt j hj).1)
        · have HK := Lib.hid (hdif.2 hneg)
          clear hdif
          have hnz : ¬ ((x : Int) - cr - y < 0) := by omega
          have HCELL := Lib.hid (cell_new wr (.int .i64 ((x : Int) - cr - y)) 3)
          go_wp2_with (at_builtin; refine wpList_append_own _ rfl (.tmp 35) (.tmp 37) 22 rfl w.heap.size 3 i0 _ 1 8 Try.underlying22 hi hz0 hz1 hz2 rfl (by decide) u5 k (nats ((List.range k).map (difAt ds es 1))) rfl (HO.out.alloc _) ⟨wr.heap.size, 0, none⟩ 1 1 [.int .i64 ((x : Int) - cr - y)] rfl rfl HCELL.out (by simp [Value.oneCell']) (by unfold maxLen; omega) (by omega) (by have := HB.out.size; simp; omega) ?_; intro v' w4 hown' hgrow _)
          have HW := Lib.hid hown'
          have HG := Lib.hid hgrow
          clear hown' hgrow
          have HE1 := Lib.hid (show (x : Int) - cr - y = ((difAt ds es 1 k : Nat) : Int) by rw [HK.out.1]; omega)
          go_wp2
          refine ⟨⟨k + 1, by omega, by go_num, by rw [HK.out.2]; rfl, ?_, ?_⟩, by simp [intOf]; omega⟩
          · have h := HW.out
            rw [HE1.out] at h
            have e3 : nats ((List.range (k + 1)).map (difAt ds es 1)) = nats ((List.range k).map (difAt ds es 1)) ++ [.int .i64 ((difAt ds es 1 k : Nat) : Int)] := by rw [List.range_succ, List.map_append, nats_app]; rfl
            rw [e3]
            exact h
          · exact (HB.out.alloc HB.out.size _).grown HG.out (by have := HB.out.size; simp; omega) (fun j hj => (HO.out.lt j hj).1)
      · have hgdy : es.getD k 0 = 0 := by
          have := HM.out
          simp [List.getElem?_eq_none (show es.length ≤ k by omega)]
        rw [hgdy, Nat.add_zero] at hdif
        clear hgdy
        have h2z : ¬ (k : Int) < (m : Int) := by omega
        by_cases hneg : x < cr
        · have HK := Lib.hid (hdif.1 hneg)
          clear hdif
          have hnz : (x : Int) - cr < 0 := by omega
          have HCELL := Lib.hid (cell_new wr (.int .i64 ((x : Int) - cr + 1000000000)) 3)
          go_wp2_with (at_builtin; refine wpList_append_own _ rfl (.tmp 35) (.tmp 37) 22 rfl w.heap.size 3 i0 _ 1 8 Try.underlying22 hi hz0 hz1 hz2 rfl (by decide) u5 k (nats ((List.range k).map (difAt ds es 1))) rfl (HO.out.alloc _) ⟨wr.heap.size, 0, none⟩ 1 1 [.int .i64 ((x : Int) - cr + 1000000000)] rfl rfl HCELL.out (by simp [Value.oneCell']) (by unfold maxLen; omega) (by omega) (by have := HB.out.size; simp; omega) ?_; intro v' w4 hown' hgrow _)
          have HW := Lib.hid hown'
          have HG := Lib.hid hgrow
          clear hown' hgrow
          have HE1 := Lib.hid (show (x : Int) - cr + 1000000000 = ((difAt ds es 1 k : Nat) : Int) by rw [HK.out.1]; omega)
          go_wp2
          refine ⟨⟨k + 1, by omega, by go_num, by rw [HK.out.2]; rfl, ?_, ?_⟩, by simp [intOf]; omega⟩
          · have h := HW.out
            rw [HE1.out] at h
            have e3 : nats ((List.range (k + 1)).map (difAt ds es 1)) = nats ((List.range k).map (difAt ds es 1)) ++ [.int .i64 ((difAt ds es 1 k : Nat) : Int)] := by rw [List.range_succ, List.map_append, nats_app]; rfl
            rw [e3]
            exact h
          · exact (HB.out.alloc HB.out.size _).grown HG.out (by have := HB.out.size; simp; omega) (fun j hj => (HO.out.lt j hj).1)
        · have HK := Lib.hid (hdif.2 hneg)
          clear hdif
          have hnz : ¬ ((x : Int) - cr < 0) := by omega
          have HCELL := Lib.hid (cell_new wr (.int .i64 ((x : Int) - cr)) 3)
          go_wp2_with (at_builtin; refine wpList_append_own _ rfl (.tmp 35) (.tmp 37) 22 rfl w.heap.size 3 i0 _ 1 8 Try.underlying22 hi hz0 hz1 hz2 rfl (by decide) u5 k (nats ((List.range k).map (difAt ds es 1))) rfl (HO.out.alloc _) ⟨wr.heap.size, 0, none⟩ 1 1 [.int .i64 ((x : Int) - cr)] rfl rfl HCELL.out (by simp [Value.oneCell']) (by unfold maxLen; omega) (by omega) (by have := HB.out.size; simp; omega) ?_; intro v' w4 hown' hgrow _)
          have HW := Lib.hid hown'
          have HG := Lib.hid hgrow
          clear hown' hgrow
          have HE1 := Lib.hid (show (x : Int) - cr = ((difAt ds es 1 k : Nat) : Int) by rw [HK.out.1]; omega)
          go_wp2
          refine ⟨⟨k + 1, by omega, by go_num, by rw [HK.out.2]; rfl, ?_, ?_⟩, by simp [intOf]; omega⟩
          · have h := HW.out
            rw [HE1.out] at h
            have e3 : nats ((List.range (k + 1)).map (difAt ds es 1)) = nats ((List.range k).map (difAt ds es 1)) ++ [.int .i64 ((difAt ds es 1 k : Nat) : Int)] := by rw [List.range_succ, List.map_append, nats_app]; rfl
            rw [e3]
            exact h
          · exact (HB.out.alloc HB.out.size _).grown HG.out (by have := HB.out.size; simp; omega) (fun j hj => (HO.out.lt j hj).1)
    · obtain rfl : k = n := by omega
      obtain ⟨A9, c9, rfl⟩ := own_shape HO.out
      have HOV := Lib.hid (OwnV.of_own HO.out)
      go_wp2_with fail
      refine (l02Trim_own _ _ _ _ _ _ HOV.out (difAt_digs _ _ _ _ HD.out)).mono ?_
      rintro e w1 ⟨rfl, hov, rfl⟩
      have hv := (sub_val ds es 1 k HD.out HL.out (by have := HM.out; omega) (by have := HLE.out; omega)).1
      rw [hv, Nat.one_mul] at hov ⊢
      have HOV2 := Lib.hid hov
      clear hov hv
      go_wp2
      go_ret
      exact ⟨_, rfl, HOV2.out, HB.out⟩
end Go.Proofs.Ytdilbhkdkppodaa
