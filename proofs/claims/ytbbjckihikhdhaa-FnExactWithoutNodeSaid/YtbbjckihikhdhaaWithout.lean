/- WithoutNode of both sides. Conditions: none. -/
import Derived.Test.YtbbjckihikhdhaaGrow
namespace Go.Proofs.Ytbbjckihikhdhaa
open Go.RowKit Nt Fr
set_option linter.unusedVariables false

/-- The links that do not have the end v. -/
def woL (ds : List Dt) (v : Int) : List Dt := ds.filter fun d => decide (d.A ≠ v ∧ d.B ≠ v)
def woD (ok : Bool) (ds : List Dt) (v : Int) : List Dt := if ok = true then woL ds v else []
theorem woL_succ {ds : List Dt} {k : Nat} {d : Dt} {v : Int} (h : ds[k]? = some d) : woL (ds.take (k + 1)) v = woL (ds.take k) v ++ (if d.A ≠ v ∧ d.B ≠ v then [d] else []) := by
  obtain ⟨hk, e⟩ := List.getElem?_eq_some_iff.mp h
  unfold woL
  rw [List.take_succ_eq_append_getElem hk, e, List.filter_append]
  congr 1
  by_cases hc : d.A ≠ v ∧ d.B ≠ v
  · rw [if_pos hc]; simp [hc.1, hc.2]
  · rw [if_neg hc]
    rw [List.filter_cons_of_neg (by simpa using hc)]; rfl
theorem lensD_filter (ds : List Dt) (p : Dt → Bool) : lensD (ds.filter p) ≤ lensD ds := by
  induction ds with
  | nil => simp [lensD]
  | cons d r ih => rw [List.filter_cons]; split <;> simp only [lensD] <;> omega
theorem woD_like {ys zs : List Lr} {n : Nat} {v : Int} (hy : ys.length = n) (hz : zs.length = n) (h : ∀ (i : Nat) (y z : Lr), ys[i]? = some y → zs[i]? = some z → y.like z) : woD (okSet ys) (dts ys) v = woD (okSet zs) (dts zs) v := by
  rw [okSet_like hy hz h, dts_like hy hz h]
theorem woD_len {zs : List Lr} {v : Int} (h : zs.length + lensL zs ≤ 1048576) : (woD (okSet zs) (dts zs) v).length + lensD (woD (okSet zs) (dts zs) v) ≤ 1048576 := by
  unfold woD
  split
  · have h1 := List.length_filter_le (fun d : Dt => decide (d.A ≠ v ∧ d.B ≠ v)) (dts zs)
    have h2 := lensD_filter (dts zs) (fun d : Dt => decide (d.A ≠ v ∧ d.B ≠ v))
    rw [dts_len] at h1
    rw [lensD_dts] at h2
    unfold woL; omega
  · simp [lensD]
set_option maxRecDepth 100000 in
set_option maxHeartbeats 4000000 in
theorem withoutNode_i (A : Option Addr) (n c : Nat) (zs : List Lr) (v : Int) (w : World) (hA : LArg w A n zs) (hn : n ≤ 1048576) :
    Calls Try.prog 55 #[.slice A n c, .int .i64 v] w (OwnLs (woD (okSet zs) (dts zs) v) w) := by
  obtain ⟨i0, hi, hz0, hz1, hz2⟩ := info_parts info_link
  have HA := Lib.hid hA
  have HL := Lib.hid hA.row.1
  clear hA
  obtain ⟨ok, hok⟩ : ∃ q, okSet zs = q := ⟨_, rfl⟩
  have HOK := Lib.hid hok
  rw [hok]
  obtain ⟨r, hr⟩ : ∃ q, woD ok (dts zs) v = q := ⟨_, rfl⟩
  have HRr := Lib.hid hr
  rw [hr]
  clear hok hr
  have B_0 := Lib.hid (Below.refl w.heap.size w)
  have G_0 := Lib.hid (LGrow.nil (Below.refl w.heap.size w))
  go_enter Try.func55, Try.ntmps55
  go_wp2_with fail
  refine (isLinkSet_i A n c zs _ (HA.out.below B_0.out) hn (fun u h => isAscending_f A n c zs u h hn)).mono ?_
  rintro e w1 ⟨rfl, hb⟩
  rw [HOK.out]
  have B_1 := Lib.hid (B_0.out.trans (hb.mono B_0.out.size))
  have G_1 := Lib.hid (G_0.out.call hb)
  clear hb B_0 G_0
  cases ok with
  | false =>
    have HE := Lib.hid (show [] = r by rw [← HRr.out]; rfl)
    go_wp2
    go_ret
    exact ⟨_, [], rfl, HE.out, LGrow.nil B_1.out⟩
  | true =>
    have HV := Lib.hid (okSet_ok HOK.out)
    go_wp2
    go_loopw [5, 13] (fun ov i wr => ∃ (k : Nat) (ys : List Lr), k ≤ n ∧ i = .int .i64 k ∧ ys.length ≤ k ∧ dts ys = woL ((dts zs).take k) v ∧ LGrow w wr ov ys) (fun _ i _ => n - (intOf i).toNat)
    case atStart => exact ⟨0, [], Nat.zero_le _, rfl, Nat.zero_le _, rfl, LGrow.nil B_1.out⟩
    case round =>
      obtain ⟨k, ys, hk, rfl, hyl, hyd, hG⟩ := hrel
      have G_1 := Lib.hid hG
      have HD := Lib.hid hyd
      clear hG hyd B_1
      by_cases hkn : k < n
      · obtain ⟨g, o, z, rfl, hg, hz, hr, hc⟩ := (HA.out.below G_1.out.below).at_ hkn
        have hzk := HV.out z (List.mem_of_getElem? hz)
        obtain ⟨ZA, ZB, ZP, ZQ, ZR, a0, n0, d0, a1, n1, d1, a2, n2, d2, a3, n3, d3, a4, n4, d4, a5, n5, d5, rfl⟩ := LArg.shapes hr
        have HS := Lib.hid (woL_succ (v := v) (dts_at hz))
        have HZK := Lib.hid (show okK ZA ZB ZP ZQ ZR = true from hzk)
        have c0 : wr.cell? ⟨g, o + k * 11, none⟩ = some (.int .i64 ZA) := hc 0 _ rfl
        have c1 : wr.cell? ⟨g, o + k * 11 + 1, none⟩ = some (.int .i64 ZB) := hc 1 _ rfl
        have c2 : wr.cell? ⟨g, o + k * 11 + 2, none⟩ = some (.bool ZP.s) := hc 2 _ rfl
        have c3 : wr.cell? ⟨g, o + k * 11 + 3, none⟩ = some ((.slice a0 n0 d0)) := hc 3 _ rfl
        have c4 : wr.cell? ⟨g, o + k * 11 + 4, none⟩ = some ((.slice a1 n1 d1)) := hc 4 _ rfl
        have c5 : wr.cell? ⟨g, o + k * 11 + 5, none⟩ = some (.bool ZQ.s) := hc 5 _ rfl
        have c6 : wr.cell? ⟨g, o + k * 11 + 6, none⟩ = some ((.slice a2 n2 d2)) := hc 6 _ rfl
        have c7 : wr.cell? ⟨g, o + k * 11 + 7, none⟩ = some ((.slice a3 n3 d3)) := hc 7 _ rfl
        have c8 : wr.cell? ⟨g, o + k * 11 + 8, none⟩ = some (.bool ZR.s) := hc 8 _ rfl
        have c9 : wr.cell? ⟨g, o + k * 11 + 9, none⟩ = some ((.slice a4 n4 d4)) := hc 9 _ rfl
        have c10 : wr.cell? ⟨g, o + k * 11 + 10, none⟩ = some ((.slice a5 n5 d5)) := hc 10 _ rfl
        have HR3 := Lib.hid (show LkA (wr.alloc (.cells #[.int .i64 ZA, .int .i64 ZB, .bool ZP.s, (.slice a0 n0 d0), (.slice a1 n1 d1), .bool ZQ.s, (.slice a2 n2 d2), (.slice a3 n3 d3), .bool ZR.s, (.slice a4 n4 d4), (.slice a5 n5 d5)] 42)) ZP ZQ ZR (.slice a0 n0 d0) (.slice a1 n1 d1) (.slice a2 n2 d2) (.slice a3 n3 d3) (.slice a4 n4 d4) (.slice a5 n5 d5) from LkA.below hr ((Below.refl _ _).alloc (Nat.le_refl _) (.cells #[.int .i64 ZA, .int .i64 ZB, .bool ZP.s, (.slice a0 n0 d0), (.slice a1 n1 d1), .bool ZQ.s, (.slice a2 n2 d2), (.slice a3 n3 d3), .bool ZR.s, (.slice a4 n4 d4), (.slice a5 n5 d5)] 42)))
        have G_2 := Lib.hid (G_1.out.alloc (.cells #[.int .i64 ZA, .int .i64 ZB, .bool ZP.s, (.slice a0 n0 d0), (.slice a1 n1 d1), .bool ZQ.s, (.slice a2 n2 d2), (.slice a3 n3 d3), .bool ZR.s, (.slice a4 n4 d4), (.slice a5 n5 d5)] 42))
        clear hz hr hc hzk G_1
        by_cases e1 : ZA = v
        · subst e1
          have g1 : (ZA != ZA) = false := by simp
          have HD2 := Lib.hid (show dts ys = woL ((dts zs).take (k + 1)) ZA by rw [HS.out, HD.out]; simp [Lr.d])
          go_wp2
          exact ⟨⟨k + 1, ys, by omega, by go_num, by omega, HD2.out, G_2.out⟩, by simp [intOf]; omega⟩
        · have g1 : (ZA != v) = true := by simpa using e1
          by_cases e2 : ZB = v
          · subst e2
            have g2 : (ZB != ZB) = false := by simp
            have HD2 := Lib.hid (show dts ys = woL ((dts zs).take (k + 1)) ZB by rw [HS.out, HD.out]; simp [Lr.d])
            go_wp2
            exact ⟨⟨k + 1, ys, by omega, by go_num, by omega, HD2.out, G_2.out⟩, by simp [intOf]; omega⟩
          · have g2 : (ZB != v) = true := by simpa using e2
            have HD2 := Lib.hid (show woL ((dts zs).take k) v ++ [⟨ZA, ZB, ZP, ZQ, ZR⟩] = woL ((dts zs).take (k + 1)) v by rw [HS.out]; simp [Lr.d, e1, e2])
            go_wp2_with fail
            refine (linkCopied_f ZA ZB ZP ZQ ZR (.slice a0 n0 d0) (.slice a1 n1 d1) (.slice a2 n2 d2) (.slice a3 n3 d3) (.slice a4 n4 d4) (.slice a5 n5 d5) _ HZK.out HR3.out).mono ?_
            rintro e w3 ⟨x0, x1, x2, x3, x4, x5, rfl, ho, hb⟩
            obtain ⟨e0, m0, h0, rfl⟩ := (ho.at_ 0 rfl).shape3
            obtain ⟨e1, m1, h1, rfl⟩ := (ho.at_ 1 rfl).shape3
            obtain ⟨e2, m2, h2, rfl⟩ := (ho.at_ 2 rfl).shape3
            obtain ⟨e3, m3, h3, rfl⟩ := (ho.at_ 3 rfl).shape3
            obtain ⟨e4, m4, h4, rfl⟩ := (ho.at_ 4 rfl).shape3
            obtain ⟨e5, m5, h5, rfl⟩ := (ho.at_ 5 rfl).shape3
            have B_3 := Lib.hid hb
            have O_3 := Lib.hid (show Owns w3 _ (Lr.rows (⟨ZA, ZB, ZP, ZQ, ZR, .slice e0 m0 h0, .slice e1 m1 h1, .slice e2 m2 h2, .slice e3 m3 h3, .slice e4 m4 h4, .slice e5 m5 h5⟩ : Lr)) from ho)
            have G_3 := Lib.hid (G_2.out.call hb)
            clear ho hb
            have hown3 := (G_3.out.alloc (.cells #[.int .i64 ZA, .int .i64 ZB, .bool ZP.s, .slice e0 m0 h0, .slice e1 m1 h1, .bool ZQ.s, .slice e2 m2 h2, .slice e3 m3 h3, .bool ZR.s, .slice e4 m4 h4, .slice e5 m5 h5] 42)).own
            have HOW := Lib.hid hown3
            have HCN := Lib.hid (cells_new w3 (Lr.cells (⟨ZA, ZB, ZP, ZQ, ZR, .slice e0 m0 h0, .slice e1 m1 h1, .slice e2 m2 h2, .slice e3 m3 h3, .slice e4 m4 h4, .slice e5 m5 h5⟩ : Lr)) 42)
            have HOC := Lib.hid (Lr.one_cells ZA ZB ZP ZQ ZR e0 e1 e2 e3 e4 e5 m0 m1 m2 m3 m4 m5 h0 h1 h2 h3 h4 h5)
            have hsz3 := G_3.out.below.size
            clear hown3
            go_wp2_with (at_builtin; refine wpList_append_own_at _ rfl (.tmp 27) (.tmp 30) 49 rfl w.heap.size 42 i0 _ 11 184 Try.underlying49 hi hz0 hz1 hz2 rfl (by decide) _ ys.length (cellsL ys) rfl HOW.out ⟨w3.heap.size, 0, none⟩ 1 1 (Lr.cells (⟨ZA, ZB, ZP, ZQ, ZR, .slice e0 m0 h0, .slice e1 m1 h1, .slice e2 m2 h2, .slice e3 m3 h3, .slice e4 m4 h4, .slice e5 m5 h5⟩ : Lr)) rfl rfl HCN.out HOC.out (by unfold maxLen; omega) (by omega) (by simp; omega) ?_)
            intro v4 w4 hown4 hgrow4 _ hloc4
            have G_5 := Lib.hid (LGrow.app (z := (⟨ZA, ZB, ZP, ZQ, ZR, .slice e0 m0 h0, .slice e1 m1 h1, .slice e2 m2 h2, .slice e3 m3 h3, .slice e4 m4 h4, .slice e5 m5 h5⟩ : Lr)) G_2.out (B_3.out.alloc B_3.out.size (.cells #[.int .i64 ZA, .int .i64 ZB, .bool ZP.s, .slice e0 m0 h0, .slice e1 m1 h1, .bool ZQ.s, .slice e2 m2 h2, .slice e3 m3 h3, .bool ZR.s, .slice e4 m4 h4, .slice e5 m5 h5] 42)) (O_3.out.below ((Below.refl _ _).alloc (Nat.le_refl _) (.cells #[.int .i64 ZA, .int .i64 ZB, .bool ZP.s, .slice e0 m0 h0, .slice e1 m1 h1, .bool ZQ.s, .slice e2 m2 h2, .slice e3 m3 h3, .bool ZR.s, .slice e4 m4 h4, .slice e5 m5 h5] 42))) hown4 hgrow4 (hloc4.imp id (fun h => by rw [h]; simp)))
            clear hown4 hgrow4 hloc4 HOW HCN HOC G_3 B_3 O_3 hsz3
            have HD3 := Lib.hid (show dts (ys ++ [(⟨ZA, ZB, ZP, ZQ, ZR, .slice e0 m0 h0, .slice e1 m1 h1, .slice e2 m2 h2, .slice e3 m3 h3, .slice e4 m4 h4, .slice e5 m5 h5⟩ : Lr)]) = woL ((dts zs).take (k + 1)) v by rw [dts_app, HD.out, ← HD2.out]; rfl)
            clear c0 c1 c2 c3 c4 c5 c6 c7 c8 c9 c10 G_2
            go_wp2
            exact ⟨⟨k + 1, _, by omega, by go_num, by simp; omega, HD3.out, G_5.out⟩, by simp [intOf]; omega⟩
      · obtain rfl : k = n := by omega
        have HE := Lib.hid (show dts ys = r by rw [HD.out, ← HRr.out, List.take_of_length_le (by rw [dts_len, HL.out]; exact Nat.le_refl _)]; rfl)
        go_wp2
        go_ret
        exact ⟨_, ys, rfl, HE.out, G_1.out⟩
set_option maxRecDepth 100000 in
set_option maxHeartbeats 4000000 in
theorem withoutNode_s (A : Option Addr) (n c : Nat) (zs : List Lr) (v : Int) (w : World) (hA : LArg w A n zs) (hn : n ≤ 1048576) :
    Calls Try.prog 54 #[.slice A n c, .int .i64 v] w (OwnLs (woD (okSet zs) (dts zs) v) w) := by
  obtain ⟨i0, hi, hz0, hz1, hz2⟩ := info_parts info_link
  have HA := Lib.hid hA
  have HL := Lib.hid hA.row.1
  clear hA
  obtain ⟨ok, hok⟩ : ∃ q, okSet zs = q := ⟨_, rfl⟩
  have HOK := Lib.hid hok
  rw [hok]
  obtain ⟨r, hr⟩ : ∃ q, woD ok (dts zs) v = q := ⟨_, rfl⟩
  have HRr := Lib.hid hr
  rw [hr]
  clear hok hr
  have B_0 := Lib.hid ((Below.refl w.heap.size w).alloc (Nat.le_refl _) (.cells #[] 42))
  have G_0 := Lib.hid (LGrow.made (Below.refl w.heap.size w))
  go_enter Try.func54, Try.ntmps54
  go_wp2_with fail
  refine (isLinkSet_s A n c zs _ (HA.out.below B_0.out) hn).mono ?_
  rintro e w1 ⟨rfl, hb⟩
  rw [HOK.out]
  have B_1 := Lib.hid (B_0.out.trans (hb.mono B_0.out.size))
  have G_1 := Lib.hid (G_0.out.call hb)
  clear hb B_0 G_0
  cases ok with
  | false =>
    have HE := Lib.hid (show [] = r by rw [← HRr.out]; rfl)
    go_wp2
    go_ret
    exact ⟨_, [], rfl, HE.out, LGrow.nil B_1.out⟩
  | true =>
    have HV := Lib.hid (okSet_ok HOK.out)
    go_wp2
    go_loopw [5, 14] (fun ov i wr => ∃ (k : Nat) (ys : List Lr), k ≤ n ∧ i = .int .i64 k ∧ ys.length ≤ k ∧ dts ys = woL ((dts zs).take k) v ∧ LGrow w wr ov ys) (fun _ i _ => n - (intOf i).toNat)
    case atStart => exact ⟨0, [], Nat.zero_le _, rfl, Nat.zero_le _, rfl, G_1.out⟩
    case round =>
      obtain ⟨k, ys, hk, rfl, hyl, hyd, hG⟩ := hrel
      have G_1 := Lib.hid hG
      have HD := Lib.hid hyd
      clear hG hyd B_1
      by_cases hkn : k < n
      · obtain ⟨g, o, z, rfl, hg, hz, hr, hc⟩ := (HA.out.below G_1.out.below).at_ hkn
        have hzk := HV.out z (List.mem_of_getElem? hz)
        obtain ⟨ZA, ZB, ZP, ZQ, ZR, a0, n0, d0, a1, n1, d1, a2, n2, d2, a3, n3, d3, a4, n4, d4, a5, n5, d5, rfl⟩ := LArg.shapes hr
        have HS := Lib.hid (woL_succ (v := v) (dts_at hz))
        have HZK := Lib.hid (show okK ZA ZB ZP ZQ ZR = true from hzk)
        have c0 : wr.cell? ⟨g, o + k * 11, none⟩ = some (.int .i64 ZA) := hc 0 _ rfl
        have c1 : wr.cell? ⟨g, o + k * 11 + 1, none⟩ = some (.int .i64 ZB) := hc 1 _ rfl
        have c2 : wr.cell? ⟨g, o + k * 11 + 2, none⟩ = some (.bool ZP.s) := hc 2 _ rfl
        have c3 : wr.cell? ⟨g, o + k * 11 + 3, none⟩ = some ((.slice a0 n0 d0)) := hc 3 _ rfl
        have c4 : wr.cell? ⟨g, o + k * 11 + 4, none⟩ = some ((.slice a1 n1 d1)) := hc 4 _ rfl
        have c5 : wr.cell? ⟨g, o + k * 11 + 5, none⟩ = some (.bool ZQ.s) := hc 5 _ rfl
        have c6 : wr.cell? ⟨g, o + k * 11 + 6, none⟩ = some ((.slice a2 n2 d2)) := hc 6 _ rfl
        have c7 : wr.cell? ⟨g, o + k * 11 + 7, none⟩ = some ((.slice a3 n3 d3)) := hc 7 _ rfl
        have c8 : wr.cell? ⟨g, o + k * 11 + 8, none⟩ = some (.bool ZR.s) := hc 8 _ rfl
        have c9 : wr.cell? ⟨g, o + k * 11 + 9, none⟩ = some ((.slice a4 n4 d4)) := hc 9 _ rfl
        have c10 : wr.cell? ⟨g, o + k * 11 + 10, none⟩ = some ((.slice a5 n5 d5)) := hc 10 _ rfl
        have HR3 := Lib.hid (show LkA (wr.alloc (.cells #[.int .i64 ZA, .int .i64 ZB, .bool ZP.s, (.slice a0 n0 d0), (.slice a1 n1 d1), .bool ZQ.s, (.slice a2 n2 d2), (.slice a3 n3 d3), .bool ZR.s, (.slice a4 n4 d4), (.slice a5 n5 d5)] 42)) ZP ZQ ZR (.slice a0 n0 d0) (.slice a1 n1 d1) (.slice a2 n2 d2) (.slice a3 n3 d3) (.slice a4 n4 d4) (.slice a5 n5 d5) from LkA.below hr ((Below.refl _ _).alloc (Nat.le_refl _) (.cells #[.int .i64 ZA, .int .i64 ZB, .bool ZP.s, (.slice a0 n0 d0), (.slice a1 n1 d1), .bool ZQ.s, (.slice a2 n2 d2), (.slice a3 n3 d3), .bool ZR.s, (.slice a4 n4 d4), (.slice a5 n5 d5)] 42)))
        have G_2 := Lib.hid (G_1.out.alloc (.cells #[.int .i64 ZA, .int .i64 ZB, .bool ZP.s, (.slice a0 n0 d0), (.slice a1 n1 d1), .bool ZQ.s, (.slice a2 n2 d2), (.slice a3 n3 d3), .bool ZR.s, (.slice a4 n4 d4), (.slice a5 n5 d5)] 42))
        clear hz hr hc hzk G_1
        by_cases e1 : ZA = v
        · subst e1
          have g1 : (ZA != ZA) = false := by simp
          have HD2 := Lib.hid (show dts ys = woL ((dts zs).take (k + 1)) ZA by rw [HS.out, HD.out]; simp [Lr.d])
          go_wp2
          exact ⟨⟨k + 1, ys, by omega, by go_num, by omega, HD2.out, G_2.out⟩, by simp [intOf]; omega⟩
        · have g1 : (ZA != v) = true := by simpa using e1
          by_cases e2 : ZB = v
          · subst e2
            have g2 : (ZB != ZB) = false := by simp
            have HD2 := Lib.hid (show dts ys = woL ((dts zs).take (k + 1)) ZB by rw [HS.out, HD.out]; simp [Lr.d])
            go_wp2
            exact ⟨⟨k + 1, ys, by omega, by go_num, by omega, HD2.out, G_2.out⟩, by simp [intOf]; omega⟩
          · have g2 : (ZB != v) = true := by simpa using e2
            have HD2 := Lib.hid (show woL ((dts zs).take k) v ++ [⟨ZA, ZB, ZP, ZQ, ZR⟩] = woL ((dts zs).take (k + 1)) v by rw [HS.out]; simp [Lr.d, e1, e2])
            go_wp2_with fail
            refine (l06Copy_f ZA ZB ZP ZQ ZR (.slice a0 n0 d0) (.slice a1 n1 d1) (.slice a2 n2 d2) (.slice a3 n3 d3) (.slice a4 n4 d4) (.slice a5 n5 d5) _ HZK.out HR3.out).mono ?_
            rintro e w3 ⟨x0, x1, x2, x3, x4, x5, rfl, ho, hb⟩
            obtain ⟨e0, m0, h0, rfl⟩ := (ho.at_ 0 rfl).shape3
            obtain ⟨e1, m1, h1, rfl⟩ := (ho.at_ 1 rfl).shape3
            obtain ⟨e2, m2, h2, rfl⟩ := (ho.at_ 2 rfl).shape3
            obtain ⟨e3, m3, h3, rfl⟩ := (ho.at_ 3 rfl).shape3
            obtain ⟨e4, m4, h4, rfl⟩ := (ho.at_ 4 rfl).shape3
            obtain ⟨e5, m5, h5, rfl⟩ := (ho.at_ 5 rfl).shape3
            have B_3 := Lib.hid hb
            have O_3 := Lib.hid (show Owns w3 _ (Lr.rows (⟨ZA, ZB, ZP, ZQ, ZR, .slice e0 m0 h0, .slice e1 m1 h1, .slice e2 m2 h2, .slice e3 m3 h3, .slice e4 m4 h4, .slice e5 m5 h5⟩ : Lr)) from ho)
            have G_3 := Lib.hid (G_2.out.call hb)
            clear ho hb
            have hown3 := (G_3.out.alloc (.cells #[.int .i64 ZA, .int .i64 ZB, .bool ZP.s, .slice e0 m0 h0, .slice e1 m1 h1, .bool ZQ.s, .slice e2 m2 h2, .slice e3 m3 h3, .bool ZR.s, .slice e4 m4 h4, .slice e5 m5 h5] 42)).own
            have HOW := Lib.hid hown3
            have HCN := Lib.hid (cells_new w3 (Lr.cells (⟨ZA, ZB, ZP, ZQ, ZR, .slice e0 m0 h0, .slice e1 m1 h1, .slice e2 m2 h2, .slice e3 m3 h3, .slice e4 m4 h4, .slice e5 m5 h5⟩ : Lr)) 42)
            have HOC := Lib.hid (Lr.one_cells ZA ZB ZP ZQ ZR e0 e1 e2 e3 e4 e5 m0 m1 m2 m3 m4 m5 h0 h1 h2 h3 h4 h5)
            have hsz3 := G_3.out.below.size
            clear hown3
            go_wp2_with (at_builtin; refine wpList_append_own_at _ rfl (.tmp 28) (.tmp 31) 49 rfl w.heap.size 42 i0 _ 11 184 Try.underlying49 hi hz0 hz1 hz2 rfl (by decide) _ ys.length (cellsL ys) rfl HOW.out ⟨w3.heap.size, 0, none⟩ 1 1 (Lr.cells (⟨ZA, ZB, ZP, ZQ, ZR, .slice e0 m0 h0, .slice e1 m1 h1, .slice e2 m2 h2, .slice e3 m3 h3, .slice e4 m4 h4, .slice e5 m5 h5⟩ : Lr)) rfl rfl HCN.out HOC.out (by unfold maxLen; omega) (by omega) (by simp; omega) ?_)
            intro v4 w4 hown4 hgrow4 _ hloc4
            have G_5 := Lib.hid (LGrow.app (z := (⟨ZA, ZB, ZP, ZQ, ZR, .slice e0 m0 h0, .slice e1 m1 h1, .slice e2 m2 h2, .slice e3 m3 h3, .slice e4 m4 h4, .slice e5 m5 h5⟩ : Lr)) G_2.out (B_3.out.alloc B_3.out.size (.cells #[.int .i64 ZA, .int .i64 ZB, .bool ZP.s, .slice e0 m0 h0, .slice e1 m1 h1, .bool ZQ.s, .slice e2 m2 h2, .slice e3 m3 h3, .bool ZR.s, .slice e4 m4 h4, .slice e5 m5 h5] 42)) (O_3.out.below ((Below.refl _ _).alloc (Nat.le_refl _) (.cells #[.int .i64 ZA, .int .i64 ZB, .bool ZP.s, .slice e0 m0 h0, .slice e1 m1 h1, .bool ZQ.s, .slice e2 m2 h2, .slice e3 m3 h3, .bool ZR.s, .slice e4 m4 h4, .slice e5 m5 h5] 42))) hown4 hgrow4 (hloc4.imp id (fun h => by rw [h]; simp)))
            clear hown4 hgrow4 hloc4 HOW HCN HOC G_3 B_3 O_3 hsz3
            have HD3 := Lib.hid (show dts (ys ++ [(⟨ZA, ZB, ZP, ZQ, ZR, .slice e0 m0 h0, .slice e1 m1 h1, .slice e2 m2 h2, .slice e3 m3 h3, .slice e4 m4 h4, .slice e5 m5 h5⟩ : Lr)]) = woL ((dts zs).take (k + 1)) v by rw [dts_app, HD.out, ← HD2.out]; rfl)
            clear c0 c1 c2 c3 c4 c5 c6 c7 c8 c9 c10 G_2
            go_wp2
            exact ⟨⟨k + 1, _, by omega, by go_num, by simp; omega, HD3.out, G_5.out⟩, by simp [intOf]; omega⟩
      · obtain rfl : k = n := by omega
        have HE := Lib.hid (show dts ys = r by rw [HD.out, ← HRr.out, List.take_of_length_le (by rw [dts_len, HL.out]; exact Nat.le_refl _)]; rfl)
        go_wp2
        go_ret
        exact ⟨_, ys, rfl, HE.out, G_1.out⟩
end Go.Proofs.Ytbbjckihikhdhaa
