/- Bridges of the model. Conditions: none. -/
import Derived.Test.YtgjaennedihckaaGreatBridge
namespace Go.Proofs.YtgjaennedihckaaGreat
open Go.RowKit Nt Fr
set_option linter.unusedVariables false

set_option maxRecDepth 100000 in
set_option maxHeartbeats 4000000 in
theorem bridges_s (A : Option Addr) (n c : Nat) (zs : List Lr) (w : World) (hA : LArg w A n zs) (hn : n ≤ 1048576) (hcn : n ≤ c) (hcm : c ≤ 1048576) :
    Calls Tryz.prog 34 #[.slice A n c] w (OwnLs (brD (okSet zs) (dts zs)) w) := by
  obtain ⟨i0, hi, hz0, hz1, hz2⟩ := info_parts info_link
  have HA := Lib.hid hA
  have HL := Lib.hid hA.row.1
  clear hA
  obtain ⟨ok, hok⟩ : ∃ q, okSet zs = q := ⟨_, rfl⟩
  have HOK := Lib.hid hok
  rw [hok]
  obtain ⟨r, hr⟩ : ∃ q, brD ok (dts zs) = q := ⟨_, rfl⟩
  have HRr := Lib.hid hr
  rw [hr]
  clear hok hr
  have B_0 := Lib.hid ((Below.refl w.heap.size w).alloc (Nat.le_refl _) (.cells #[] 38))
  have G_0 := Lib.hid (LGrow.made (Below.refl w.heap.size w))
  go_enter Tryz.func34, Tryz.ntmps34
  go_wp2_with fail
  refine (isLinkSet_s A n c zs _ (HA.out.below B_0.out) hn).mono ?_
  rintro e w1 ⟨rfl, hb⟩
  rw [HOK.out]
  have B_1 := Lib.hid (B_0.out.trans (hb.mono B_0.out.size))
  have G_01 := Lib.hid (G_0.out.call hb)
  clear hb B_0 G_0
  cases ok with
  | false =>
    have HE := Lib.hid (show [] = r by rw [← HRr.out]; rfl)
    go_wp2
    go_ret
    exact ⟨_, [], rfl, HE.out, LGrow.nil B_1.out⟩
  | true =>
    have HV := Lib.hid (okSet_ok HOK.out)
    go_wp2
    go_loopw [3, 13] (fun ov i wr => ∃ (k : Nat) (ys : List Lr), k ≤ n ∧ i = .int .i64 k ∧ ys.length ≤ k ∧ dts ys = brTo (dts zs) k ∧ LGrow w wr ov ys) (fun _ i _ => n - (intOf i).toNat)
    case atStart => exact ⟨0, [], Nat.zero_le _, rfl, Nat.zero_le _, rfl, G_01.out⟩
    case round =>
      obtain ⟨k, ys, hk, rfl, hyl, hyd, hG⟩ := hrel
      have G_1 := Lib.hid hG
      have HD := Lib.hid hyd
      clear hG hyd B_1 G_01
      by_cases hkn : k < n
      · obtain ⟨g, o, z, rfl, hg, hz, hr, hc⟩ := (HA.out.below G_1.out.below).at_ hkn
        have hzk := HV.out z (List.mem_of_getElem? hz)
        obtain ⟨ZA, ZB, ZP, ZQ, ZR, a0, n0, d0, a1, n1, d1, a2, n2, d2, a3, n3, d3, a4, n4, d4, a5, n5, d5, rfl⟩ := LArg.shapes hr
        have HZ := Lib.hid (show (dts zs)[k]? = some ⟨ZA, ZB, ZP, ZQ, ZR⟩ from dts_at hz)
        have HZK := Lib.hid (show okK ZA ZB ZP ZQ ZR = true from hzk)
        have hzp := okK_parts HZK.out
        have c0 : wr.cell? ⟨g, o + k * 11, none⟩ = some (.int .i64 ZA) := hc 0 _ rfl
        have c1 : wr.cell? ⟨g, o + k * 11 + 1, none⟩ = some (.int .i64 ZB) := hc 1 _ rfl
        have c2 : wr.cell? ⟨g, o + k * 11 + 2, none⟩ = some (.bool ZP.s) := hc 2 _ rfl
        have c3 : wr.cell? ⟨g, o + k * 11 + 3, none⟩ = some ((.slice a0 n0 d0)) := hc 3 _ rfl
        have c4 : wr.cell? ⟨g, o + k * 11 + 4, none⟩ = some ((.slice a1 n1 d1)) := hc 4 _ rfl
        have c5 : wr.cell? ⟨g, o + k * 11 + 5, none⟩ = some (.bool ZQ.s) := hc 5 _ rfl
        have c6 : wr.cell? ⟨g, o + k * 11 + 6, none⟩ = some ((.slice a2 n2 d2)) := hc 6 _ rfl
        have c7 : wr.cell? ⟨g, o + k * 11 + 7, none⟩ = some ((.slice a3 n3 d3)) := hc 7 _ rfl
        have c8 : wr.cell? ⟨g, o + k * 11 + 8, none⟩ = some (.bool ZR.s) := hc 8 _ rfl
        have c9 : wr.cell? ⟨g, o + k * 11 + 9, none⟩ = some ((.slice a4 n4 d4)) := hc 9 _ rfl
        have c10 : wr.cell? ⟨g, o + k * 11 + 10, none⟩ = some ((.slice a5 n5 d5)) := hc 10 _ rfl
        have HR1 := Lib.hid (show LkA wr ZP ZQ ZR (.slice a0 n0 d0) (.slice a1 n1 d1) (.slice a2 n2 d2) (.slice a3 n3 d3) (.slice a4 n4 d4) (.slice a5 n5 d5) from hr)
        have G_2 := Lib.hid (G_1.out.alloc (.cells #[.int .i64 ZA, .int .i64 ZB, .bool ZP.s, (.slice a0 n0 d0), (.slice a1 n1 d1), .bool ZQ.s, (.slice a2 n2 d2), (.slice a3 n3 d3), .bool ZR.s, (.slice a4 n4 d4), (.slice a5 n5 d5)] 38))
        have K_2 := Lib.hid (HeldL.new wr [.int .i64 ZA, .int .i64 ZB, .bool ZP.s, (.slice a0 n0 d0), (.slice a1 n1 d1), .bool ZQ.s, (.slice a2 n2 d2), (.slice a3 n3 d3), .bool ZR.s, (.slice a4 n4 d4), (.slice a5 n5 d5)] 38)
        have hk0 : (0 : Int) ≤ (k : Int) := by omega
        have hk1 : (k : Int) ≤ (c : Int) := by omega
        have hk2 : IntKind.i64.wrap ((k : Int) + 1) = (k : Int) + 1 := by rw [IntKind.wrap_i64]; omega
        have hk3 : (k : Int) + 1 ≤ (n : Int) := by omega
        have hk4 : (0 : Int) ≤ (k : Int) + 1 := by omega
        have hk5 : k ≤ c := by omega
        have hk6 : k + 1 ≤ n := by omega
        clear hz hr hc hzk G_1
        obtain ⟨rest, hrest⟩ : ∃ q, zs.take k ++ zs.drop (k + 1) = q := ⟨_, rfl⟩
        have HRS := Lib.hid hrest
        have HRO := Lib.hid (show okSet rest = true by rw [← hrest]; exact okSet_sub HOK.out (by rw [← eraseIdx_app]; exact List.eraseIdx_sublist _ _))
        have HRL := Lib.hid (show rest.length = k + (n - (k + 1)) by rw [← hrest, List.length_append, List.length_take, List.length_drop, HL.out]; omega)
        obtain ⟨cl, hcl⟩ : ∃ q, Gr.compN (eds rest) ZA 10 = q := ⟨_, rfl⟩
        have hcn2 : cl.length ≤ 4194304 := by rw [← hcl]; have h := compA_len rest ZA; simpa [compA, HRO.out] using h
        have HBR := Lib.hid (show isBr (dts zs) k ⟨ZA, ZB, ZP, ZQ, ZR⟩ = !cl.contains ZB by unfold isBr; rw [dts_erase, edsD_dts, hrest, hcl])
        have HCL := Lib.hid hcl
        have HCA := Lib.hid (show compA rest ZA = cl by rw [← hcl]; simp [compA, HRO.out])
        clear hrest hcl
        by_cases hck : c = k + 1
        · have hck3 : (c = k + 1) = True := by simp [hck]
          have HNK := Lib.hid (show n - (k + 1) = 0 by omega)
          clear hck
          have G_1w := Lib.hid (G_2.out.below)
          have E_2 := Lib.hid (LGrow.made (w0 := (wr.alloc (.cells #[.int .i64 ZA, .int .i64 ZB, .bool ZP.s, (.slice a0 n0 d0), (.slice a1 n1 d1), .bool ZQ.s, (.slice a2 n2 d2), (.slice a3 n3 d3), .bool ZR.s, (.slice a4 n4 d4), (.slice a5 n5 d5)] 38))) (w := (wr.alloc (.cells #[.int .i64 ZA, .int .i64 ZB, .bool ZP.s, (.slice a0 n0 d0), (.slice a1 n1 d1), .bool ZQ.s, (.slice a2 n2 d2), (.slice a3 n3 d3), .bool ZR.s, (.slice a4 n4 d4), (.slice a5 n5 d5)] 38)).drew) ((Below.refl _ _).drew)).own
          go_upto_region 7 with fail
          go_region_held3 (fun _ => True) (trivial)
            (first
              | (refine step_append_links rfl (.tmp 18) (.tmp 21) 53 rfl (wr.alloc (.cells #[.int .i64 ZA, .int .i64 ZB, .bool ZP.s, (.slice a0 n0 d0), (.slice a1 n1 d1), .bool ZQ.s, (.slice a2 n2 d2), (.slice a3 n3 d3), .bool ZR.s, (.slice a4 n4 d4), (.slice a5 n5 d5)] 38)).heap.size 38 i0 _ Tryz.underlying53 hi hz0 hz1 hz2 rfl _ 0 [] (by simp [Act.eval] <;> rfl) E_2.out ⟨g, o, none⟩ k c (zs.take k) (by simp [Act.eval] <;> rfl) (((HA.out.below G_1w.out).below (((Below.refl _ _).drew).alloc (by simp) (.cells #[] 38))).take (by omega)) (by omega) (by simp) ?_
                 intro v5 w5 hown5 hgr5
                 have B_5 := Lib.hid (show Below (wr.alloc (.cells #[.int .i64 ZA, .int .i64 ZB, .bool ZP.s, (.slice a0 n0 d0), (.slice a1 n1 d1), .bool ZQ.s, (.slice a2 n2 d2), (.slice a3 n3 d3), .bool ZR.s, (.slice a4 n4 d4), (.slice a5 n5 d5)] 38)).heap.size (wr.alloc (.cells #[.int .i64 ZA, .int .i64 ZB, .bool ZP.s, (.slice a0 n0 d0), (.slice a1 n1 d1), .bool ZQ.s, (.slice a2 n2 d2), (.slice a3 n3 d3), .bool ZR.s, (.slice a4 n4 d4), (.slice a5 n5 d5)] 38)) w5 from (((Below.refl _ _).alloc (Nat.le_refl _) (.cells #[] 38)).drew).grown hgr5 (by simp) (fun q hq => (E_2.out.lt q hq).1))
                 have B_6 := Lib.hid (G_1w.out.trans (B_5.out.mono G_1w.out.size))
                 have O_5 := Lib.hid (show w5.ownsRow (wr.alloc (.cells #[.int .i64 ZA, .int .i64 ZB, .bool ZP.s, (.slice a0 n0 d0), (.slice a1 n1 d1), .bool ZQ.s, (.slice a2 n2 d2), (.slice a3 n3 d3), .bool ZR.s, (.slice a4 n4 d4), (.slice a5 n5 d5)] 38)).heap.size 38 11 v5 k (cellsL (zs.take k)) by simpa using hown5)
                 clear hown5 hgr5)
              | (refine step_append_links rfl (.tmp 22) (.tmp 26) 53 rfl (wr.alloc (.cells #[.int .i64 ZA, .int .i64 ZB, .bool ZP.s, (.slice a0 n0 d0), (.slice a1 n1 d1), .bool ZQ.s, (.slice a2 n2 d2), (.slice a3 n3 d3), .bool ZR.s, (.slice a4 n4 d4), (.slice a5 n5 d5)] 38)).heap.size 38 i0 _ Tryz.underlying53 hi hz0 hz1 hz2 rfl _ k (cellsL (zs.take k)) (by simp [Act.eval] <;> rfl) O_5.out ⟨g, o, none⟩ (n - (k + 1)) (c - (k + 1)) (zs.drop (k + 1)) (by simp [Act.eval] <;> rfl) (show LArg _ _ (n - (k + 1)) _ by rw [HNK.out]; exact LArg.none0 (List.drop_eq_nil_of_le (by rw [HL.out]; have := HNK.out; omega))) (by omega) (by have := B_5.out.size; omega) ?_
                 intro v6 w6 hown6 hgr6
                 have B_7 := Lib.hid (B_5.out.grown hgr6 B_5.out.size (fun q hq => (O_5.out.lt q hq).1))
                 have O_6 := Lib.hid (show w6.ownsRow (wr.alloc (.cells #[.int .i64 ZA, .int .i64 ZB, .bool ZP.s, (.slice a0 n0 d0), (.slice a1 n1 d1), .bool ZQ.s, (.slice a2 n2 d2), (.slice a3 n3 d3), .bool ZR.s, (.slice a4 n4 d4), (.slice a5 n5 d5)] 38)).heap.size 38 11 v6 (k + (n - (k + 1))) (cellsL rest) by rw [← HRS.out, cellsL_app]; exact hown6)
                 clear hown6 hgr6 O_5 B_5 B_6))
          obtain ⟨A3, q3, rfl, hl3⟩ := larg_row (w := w6) (ys := rest) (base := (wr.alloc (.cells #[.int .i64 ZA, .int .i64 ZB, .bool ZP.s, (.slice a0 n0 d0), (.slice a1 n1 d1), .bool ZQ.s, (.slice a2 n2 d2), (.slice a3 n3 d3), .bool ZR.s, (.slice a4 n4 d4), (.slice a5 n5 d5)] 38)).heap.size) (by rw [HRL.out]; exact O_6.out) (fun y hy => by have h := ((HA.out.below G_1w.out).below B_7.out).arg y (by rw [← HRS.out] at hy; exact (List.mem_append.mp hy).elim List.mem_of_mem_take List.mem_of_mem_drop); exact h)
          rw [HRL.out] at hl3 ⊢
          obtain ⟨m3, hm3⟩ : ∃ q, k + (n - (k + 1)) = q := ⟨_, rfl⟩
          have hm3b : m3 ≤ 1048576 := by omega
          rw [hm3] at hl3 ⊢
          have L_3 := Lib.hid hl3
          have G_4 := Lib.hid (G_2.out.call B_7.out)
          have K_4 := Lib.hid (K_2.out.after B_7.out)
          have R_4 := Lib.hid ((HR1.out.below ((Below.refl _ _).alloc (Nat.le_refl _) (.cells #[.int .i64 ZA, .int .i64 ZB, .bool ZP.s, (.slice a0 n0 d0), (.slice a1 n1 d1), .bool ZQ.s, (.slice a2 n2 d2), (.slice a3 n3 d3), .bool ZR.s, (.slice a4 n4 d4), (.slice a5 n5 d5)] 38))).below B_7.out)
          clear hl3 hm3 B_7 O_6 G_2 K_2 E_2 c0 c1 c2 c3 c4 c5 c6 c7 c8 c9 c10
          obtain ⟨b0, hb0⟩ : ∃ q, cl.contains ZB = q := ⟨_, rfl⟩
          have HB0 := Lib.hid hb0
          clear hb0
          have x0 := K_4.out.cell 0 _ rfl
          have x1 := K_4.out.cell 1 _ rfl
          go_wp2
          go_region_held3 (fun w' => w'.cell? ⟨wr.heap.size, 0, none⟩ = some (.int .i64 ZA) ∧ w'.cell? ⟨wr.heap.size, 1, none⟩ = some (.int .i64 ZB)) (go_keep)
            (first
              | (go_at_call 30
                 refine (componentOf_s A3 m3 q3 rest ZA _ (L_3.out.below ((Below.refl _ _).drew)) hm3b).mono ?_
                 rintro e w5 ⟨u5, rfl, ho, hb⟩
                 rw [HCA.out] at ho
                 obtain ⟨Ac, cc, rfl⟩ := ho.shape
                 obtain ⟨nc, hnc⟩ : ∃ q, (ints cl).length = q := ⟨_, rfl⟩
                 rw [hnc] at ho ⊢
                 have hnc2 : nc ≤ 4194304 := by rw [ints_len] at hnc; omega
                 have O_5 := Lib.hid ho.row
                 have G_45 := Lib.hid ((show LGrow w w6.drew _ _ from ⟨G_4.out.below.drew, G_4.out.own, G_4.out.row, G_4.out.br⟩).call hb)
                 have K_5 := Lib.hid (K_4.out.drew.after hb)
                 have R_5 := Lib.hid ((R_4.out.below ((Below.refl _ _).drew)).below hb)
                 have y0 := K_5.out.cell 0 _ rfl
                 have y1 := K_5.out.cell 1 _ rfl
                 clear ho hb hnc G_4)
              | (go_at_call 58
                 refine (l07Has_f Ac nc cc cl ZB _ O_5.out hnc2).mono ?_
                 rintro e w' ⟨rfl, hw⟩
                 obtain rfl := hw.symm
                 rw [HB0.out]))
          have G_4 := Lib.hid G_45.out
          clear G_45
          clear x0 x1 y0 y1
          cases b0 with
          | true =>
            have HD2 := Lib.hid (show dts ys = brTo (dts zs) (k + 1) by rw [brTo_no HZ.out (by rw [HBR.out, HB0.out]; rfl), HD.out])
            go_wp2
            exact ⟨⟨k + 1, ys, by omega, by go_num, by omega, HD2.out, G_4.out⟩, by simp [intOf]; omega⟩
          | false =>
            have HD2 := Lib.hid (show brTo (dts zs) k ++ [⟨ZA, ZB, ZP, ZQ, ZR⟩] = brTo (dts zs) (k + 1) by rw [brTo_yes HZ.out (by rw [HBR.out, HB0.out]; rfl)])
            have x0 := K_5.out.cell 0 _ rfl
            have x1 := K_5.out.cell 1 _ rfl
            have x2 := K_5.out.cell 2 _ rfl
            have x3 := K_5.out.cell 3 _ rfl
            have x4 := K_5.out.cell 4 _ rfl
            have x5 := K_5.out.cell 5 _ rfl
            have x6 := K_5.out.cell 6 _ rfl
            have x7 := K_5.out.cell 7 _ rfl
            have x8 := K_5.out.cell 8 _ rfl
            have x9 := K_5.out.cell 9 _ rfl
            have x10 := K_5.out.cell 10 _ rfl
            go_wp2_with fail
            refine (l06Copy_f ZA ZB ZP ZQ ZR (.slice a0 n0 d0) (.slice a1 n1 d1) (.slice a2 n2 d2) (.slice a3 n3 d3) (.slice a4 n4 d4) (.slice a5 n5 d5) _ HZK.out R_5.out).mono ?_
            rintro e w3 ⟨x0, x1, x2, x3, x4, x5, rfl, ho, hb⟩
            obtain ⟨e0, m0, h0, rfl⟩ := (ho.at_ 0 rfl).shape3
            obtain ⟨e1, m1, h1, rfl⟩ := (ho.at_ 1 rfl).shape3
            obtain ⟨e2, m2, h2, rfl⟩ := (ho.at_ 2 rfl).shape3
            obtain ⟨e3, m3, h3, rfl⟩ := (ho.at_ 3 rfl).shape3
            obtain ⟨e4, m4, h4, rfl⟩ := (ho.at_ 4 rfl).shape3
            obtain ⟨e5, m5, h5, rfl⟩ := (ho.at_ 5 rfl).shape3
            have B_3 := Lib.hid hb
            have O_3 := Lib.hid (show Owns w3 _ (Lr.rows (⟨ZA, ZB, ZP, ZQ, ZR, .slice e0 m0 h0, .slice e1 m1 h1, .slice e2 m2 h2, .slice e3 m3 h3, .slice e4 m4 h4, .slice e5 m5 h5⟩ : Lr)) from ho)
            have G_3 := Lib.hid (G_4.out.call hb)
            clear ho hb
            have hown3 := (G_3.out.alloc (.cells #[.int .i64 ZA, .int .i64 ZB, .bool ZP.s, .slice e0 m0 h0, .slice e1 m1 h1, .bool ZQ.s, .slice e2 m2 h2, .slice e3 m3 h3, .bool ZR.s, .slice e4 m4 h4, .slice e5 m5 h5] 38)).own
            have HOW := Lib.hid hown3
            have HCN := Lib.hid (cells_new w3 (Lr.cells (⟨ZA, ZB, ZP, ZQ, ZR, .slice e0 m0 h0, .slice e1 m1 h1, .slice e2 m2 h2, .slice e3 m3 h3, .slice e4 m4 h4, .slice e5 m5 h5⟩ : Lr)) 38)
            have HOC := Lib.hid (Lr.one_cells ZA ZB ZP ZQ ZR e0 e1 e2 e3 e4 e5 m0 m1 m2 m3 m4 m5 h0 h1 h2 h3 h4 h5)
            have hsz3 := G_3.out.below.size
            clear hown3
            go_wp2_with (at_builtin; refine wpList_append_own_at _ rfl (.tmp 36) (.tmp 39) 53 rfl w.heap.size 38 i0 _ 11 184 Tryz.underlying53 hi hz0 hz1 hz2 rfl (by decide) _ ys.length (cellsL ys) rfl HOW.out ⟨w3.heap.size, 0, none⟩ 1 1 (Lr.cells (⟨ZA, ZB, ZP, ZQ, ZR, .slice e0 m0 h0, .slice e1 m1 h1, .slice e2 m2 h2, .slice e3 m3 h3, .slice e4 m4 h4, .slice e5 m5 h5⟩ : Lr)) rfl rfl HCN.out HOC.out (by unfold maxLen; omega) (by omega) (by simp; omega) ?_)
            intro v4 w4 hown4 hgrow4 _ hloc4
            have G_5 := Lib.hid (LGrow.app (z := (⟨ZA, ZB, ZP, ZQ, ZR, .slice e0 m0 h0, .slice e1 m1 h1, .slice e2 m2 h2, .slice e3 m3 h3, .slice e4 m4 h4, .slice e5 m5 h5⟩ : Lr)) G_4.out (B_3.out.alloc B_3.out.size (.cells #[.int .i64 ZA, .int .i64 ZB, .bool ZP.s, .slice e0 m0 h0, .slice e1 m1 h1, .bool ZQ.s, .slice e2 m2 h2, .slice e3 m3 h3, .bool ZR.s, .slice e4 m4 h4, .slice e5 m5 h5] 38)) (O_3.out.below ((Below.refl _ _).alloc (Nat.le_refl _) (.cells #[.int .i64 ZA, .int .i64 ZB, .bool ZP.s, .slice e0 m0 h0, .slice e1 m1 h1, .bool ZQ.s, .slice e2 m2 h2, .slice e3 m3 h3, .bool ZR.s, .slice e4 m4 h4, .slice e5 m5 h5] 38))) hown4 hgrow4 (hloc4.imp id (fun h => by rw [h]; simp)))
            clear hown4 hgrow4 hloc4 HOW HCN HOC G_3 B_3 O_3 hsz3
            have HD3 := Lib.hid (show dts (ys ++ [(⟨ZA, ZB, ZP, ZQ, ZR, .slice e0 m0 h0, .slice e1 m1 h1, .slice e2 m2 h2, .slice e3 m3 h3, .slice e4 m4 h4, .slice e5 m5 h5⟩ : Lr)]) = brTo (dts zs) (k + 1) by rw [dts_app, HD.out, ← HD2.out]; rfl)
            clear G_4
            go_wp2
            exact ⟨⟨k + 1, _, by omega, by go_num, by simp; omega, HD3.out, G_5.out⟩, by simp [intOf]; omega⟩
        · have hck2 : ¬ c - (k + 1) = 0 := by omega
          have G_1w := Lib.hid (G_2.out.below)
          have E_2 := Lib.hid (LGrow.made (w0 := (wr.alloc (.cells #[.int .i64 ZA, .int .i64 ZB, .bool ZP.s, (.slice a0 n0 d0), (.slice a1 n1 d1), .bool ZQ.s, (.slice a2 n2 d2), (.slice a3 n3 d3), .bool ZR.s, (.slice a4 n4 d4), (.slice a5 n5 d5)] 38))) (w := (wr.alloc (.cells #[.int .i64 ZA, .int .i64 ZB, .bool ZP.s, (.slice a0 n0 d0), (.slice a1 n1 d1), .bool ZQ.s, (.slice a2 n2 d2), (.slice a3 n3 d3), .bool ZR.s, (.slice a4 n4 d4), (.slice a5 n5 d5)] 38)).drew) ((Below.refl _ _).drew)).own
          go_upto_region 7 with fail
          go_region_held3 (fun _ => True) (trivial)
            (first
              | (refine step_append_links rfl (.tmp 18) (.tmp 21) 53 rfl (wr.alloc (.cells #[.int .i64 ZA, .int .i64 ZB, .bool ZP.s, (.slice a0 n0 d0), (.slice a1 n1 d1), .bool ZQ.s, (.slice a2 n2 d2), (.slice a3 n3 d3), .bool ZR.s, (.slice a4 n4 d4), (.slice a5 n5 d5)] 38)).heap.size 38 i0 _ Tryz.underlying53 hi hz0 hz1 hz2 rfl _ 0 [] (by simp [Act.eval] <;> rfl) E_2.out ⟨g, o, none⟩ k c (zs.take k) (by simp [Act.eval] <;> rfl) (((HA.out.below G_1w.out).below (((Below.refl _ _).drew).alloc (by simp) (.cells #[] 38))).take (by omega)) (by omega) (by simp) ?_
                 intro v5 w5 hown5 hgr5
                 have B_5 := Lib.hid (show Below (wr.alloc (.cells #[.int .i64 ZA, .int .i64 ZB, .bool ZP.s, (.slice a0 n0 d0), (.slice a1 n1 d1), .bool ZQ.s, (.slice a2 n2 d2), (.slice a3 n3 d3), .bool ZR.s, (.slice a4 n4 d4), (.slice a5 n5 d5)] 38)).heap.size (wr.alloc (.cells #[.int .i64 ZA, .int .i64 ZB, .bool ZP.s, (.slice a0 n0 d0), (.slice a1 n1 d1), .bool ZQ.s, (.slice a2 n2 d2), (.slice a3 n3 d3), .bool ZR.s, (.slice a4 n4 d4), (.slice a5 n5 d5)] 38)) w5 from (((Below.refl _ _).alloc (Nat.le_refl _) (.cells #[] 38)).drew).grown hgr5 (by simp) (fun q hq => (E_2.out.lt q hq).1))
                 have B_6 := Lib.hid (G_1w.out.trans (B_5.out.mono G_1w.out.size))
                 have O_5 := Lib.hid (show w5.ownsRow (wr.alloc (.cells #[.int .i64 ZA, .int .i64 ZB, .bool ZP.s, (.slice a0 n0 d0), (.slice a1 n1 d1), .bool ZQ.s, (.slice a2 n2 d2), (.slice a3 n3 d3), .bool ZR.s, (.slice a4 n4 d4), (.slice a5 n5 d5)] 38)).heap.size 38 11 v5 k (cellsL (zs.take k)) by simpa using hown5)
                 clear hown5 hgr5)
              | (refine step_append_links rfl (.tmp 22) (.tmp 26) 53 rfl (wr.alloc (.cells #[.int .i64 ZA, .int .i64 ZB, .bool ZP.s, (.slice a0 n0 d0), (.slice a1 n1 d1), .bool ZQ.s, (.slice a2 n2 d2), (.slice a3 n3 d3), .bool ZR.s, (.slice a4 n4 d4), (.slice a5 n5 d5)] 38)).heap.size 38 i0 _ Tryz.underlying53 hi hz0 hz1 hz2 rfl _ k (cellsL (zs.take k)) (by simp [Act.eval] <;> rfl) O_5.out ⟨g, o + (k + 1) * 11, none⟩ (n - (k + 1)) (c - (k + 1)) (zs.drop (k + 1)) (by simp [Act.eval] <;> rfl) ((HA.out.below B_6.out).drop (by omega)) (by omega) (by have := B_5.out.size; omega) ?_
                 intro v6 w6 hown6 hgr6
                 have B_7 := Lib.hid (B_5.out.grown hgr6 B_5.out.size (fun q hq => (O_5.out.lt q hq).1))
                 have O_6 := Lib.hid (show w6.ownsRow (wr.alloc (.cells #[.int .i64 ZA, .int .i64 ZB, .bool ZP.s, (.slice a0 n0 d0), (.slice a1 n1 d1), .bool ZQ.s, (.slice a2 n2 d2), (.slice a3 n3 d3), .bool ZR.s, (.slice a4 n4 d4), (.slice a5 n5 d5)] 38)).heap.size 38 11 v6 (k + (n - (k + 1))) (cellsL rest) by rw [← HRS.out, cellsL_app]; exact hown6)
                 clear hown6 hgr6 O_5 B_5 B_6))
          obtain ⟨A3, q3, rfl, hl3⟩ := larg_row (w := w6) (ys := rest) (base := (wr.alloc (.cells #[.int .i64 ZA, .int .i64 ZB, .bool ZP.s, (.slice a0 n0 d0), (.slice a1 n1 d1), .bool ZQ.s, (.slice a2 n2 d2), (.slice a3 n3 d3), .bool ZR.s, (.slice a4 n4 d4), (.slice a5 n5 d5)] 38)).heap.size) (by rw [HRL.out]; exact O_6.out) (fun y hy => by have h := ((HA.out.below G_1w.out).below B_7.out).arg y (by rw [← HRS.out] at hy; exact (List.mem_append.mp hy).elim List.mem_of_mem_take List.mem_of_mem_drop); exact h)
          rw [HRL.out] at hl3 ⊢
          obtain ⟨m3, hm3⟩ : ∃ q, k + (n - (k + 1)) = q := ⟨_, rfl⟩
          have hm3b : m3 ≤ 1048576 := by omega
          rw [hm3] at hl3 ⊢
          have L_3 := Lib.hid hl3
          have G_4 := Lib.hid (G_2.out.call B_7.out)
          have K_4 := Lib.hid (K_2.out.after B_7.out)
          have R_4 := Lib.hid ((HR1.out.below ((Below.refl _ _).alloc (Nat.le_refl _) (.cells #[.int .i64 ZA, .int .i64 ZB, .bool ZP.s, (.slice a0 n0 d0), (.slice a1 n1 d1), .bool ZQ.s, (.slice a2 n2 d2), (.slice a3 n3 d3), .bool ZR.s, (.slice a4 n4 d4), (.slice a5 n5 d5)] 38))).below B_7.out)
          clear hl3 hm3 B_7 O_6 G_2 K_2 E_2 c0 c1 c2 c3 c4 c5 c6 c7 c8 c9 c10
          obtain ⟨b0, hb0⟩ : ∃ q, cl.contains ZB = q := ⟨_, rfl⟩
          have HB0 := Lib.hid hb0
          clear hb0
          have x0 := K_4.out.cell 0 _ rfl
          have x1 := K_4.out.cell 1 _ rfl
          go_wp2
          go_region_held3 (fun w' => w'.cell? ⟨wr.heap.size, 0, none⟩ = some (.int .i64 ZA) ∧ w'.cell? ⟨wr.heap.size, 1, none⟩ = some (.int .i64 ZB)) (go_keep)
            (first
              | (go_at_call 30
                 refine (componentOf_s A3 m3 q3 rest ZA _ (L_3.out.below ((Below.refl _ _).drew)) hm3b).mono ?_
                 rintro e w5 ⟨u5, rfl, ho, hb⟩
                 rw [HCA.out] at ho
                 obtain ⟨Ac, cc, rfl⟩ := ho.shape
                 obtain ⟨nc, hnc⟩ : ∃ q, (ints cl).length = q := ⟨_, rfl⟩
                 rw [hnc] at ho ⊢
                 have hnc2 : nc ≤ 4194304 := by rw [ints_len] at hnc; omega
                 have O_5 := Lib.hid ho.row
                 have G_45 := Lib.hid ((show LGrow w w6.drew _ _ from ⟨G_4.out.below.drew, G_4.out.own, G_4.out.row, G_4.out.br⟩).call hb)
                 have K_5 := Lib.hid (K_4.out.drew.after hb)
                 have R_5 := Lib.hid ((R_4.out.below ((Below.refl _ _).drew)).below hb)
                 have y0 := K_5.out.cell 0 _ rfl
                 have y1 := K_5.out.cell 1 _ rfl
                 clear ho hb hnc G_4)
              | (go_at_call 58
                 refine (l07Has_f Ac nc cc cl ZB _ O_5.out hnc2).mono ?_
                 rintro e w' ⟨rfl, hw⟩
                 obtain rfl := hw.symm
                 rw [HB0.out]))
          have G_4 := Lib.hid G_45.out
          clear G_45
          clear x0 x1 y0 y1
          cases b0 with
          | true =>
            have HD2 := Lib.hid (show dts ys = brTo (dts zs) (k + 1) by rw [brTo_no HZ.out (by rw [HBR.out, HB0.out]; rfl), HD.out])
            go_wp2
            exact ⟨⟨k + 1, ys, by omega, by go_num, by omega, HD2.out, G_4.out⟩, by simp [intOf]; omega⟩
          | false =>
            have HD2 := Lib.hid (show brTo (dts zs) k ++ [⟨ZA, ZB, ZP, ZQ, ZR⟩] = brTo (dts zs) (k + 1) by rw [brTo_yes HZ.out (by rw [HBR.out, HB0.out]; rfl)])
            have x0 := K_5.out.cell 0 _ rfl
            have x1 := K_5.out.cell 1 _ rfl
            have x2 := K_5.out.cell 2 _ rfl
            have x3 := K_5.out.cell 3 _ rfl
            have x4 := K_5.out.cell 4 _ rfl
            have x5 := K_5.out.cell 5 _ rfl
            have x6 := K_5.out.cell 6 _ rfl
            have x7 := K_5.out.cell 7 _ rfl
            have x8 := K_5.out.cell 8 _ rfl
            have x9 := K_5.out.cell 9 _ rfl
            have x10 := K_5.out.cell 10 _ rfl
            go_wp2_with fail
            refine (l06Copy_f ZA ZB ZP ZQ ZR (.slice a0 n0 d0) (.slice a1 n1 d1) (.slice a2 n2 d2) (.slice a3 n3 d3) (.slice a4 n4 d4) (.slice a5 n5 d5) _ HZK.out R_5.out).mono ?_
            rintro e w3 ⟨x0, x1, x2, x3, x4, x5, rfl, ho, hb⟩
            obtain ⟨e0, m0, h0, rfl⟩ := (ho.at_ 0 rfl).shape3
            obtain ⟨e1, m1, h1, rfl⟩ := (ho.at_ 1 rfl).shape3
            obtain ⟨e2, m2, h2, rfl⟩ := (ho.at_ 2 rfl).shape3
            obtain ⟨e3, m3, h3, rfl⟩ := (ho.at_ 3 rfl).shape3
            obtain ⟨e4, m4, h4, rfl⟩ := (ho.at_ 4 rfl).shape3
            obtain ⟨e5, m5, h5, rfl⟩ := (ho.at_ 5 rfl).shape3
            have B_3 := Lib.hid hb
            have O_3 := Lib.hid (show Owns w3 _ (Lr.rows (⟨ZA, ZB, ZP, ZQ, ZR, .slice e0 m0 h0, .slice e1 m1 h1, .slice e2 m2 h2, .slice e3 m3 h3, .slice e4 m4 h4, .slice e5 m5 h5⟩ : Lr)) from ho)
            have G_3 := Lib.hid (G_4.out.call hb)
            clear ho hb
            have hown3 := (G_3.out.alloc (.cells #[.int .i64 ZA, .int .i64 ZB, .bool ZP.s, .slice e0 m0 h0, .slice e1 m1 h1, .bool ZQ.s, .slice e2 m2 h2, .slice e3 m3 h3, .bool ZR.s, .slice e4 m4 h4, .slice e5 m5 h5] 38)).own
            have HOW := Lib.hid hown3
            have HCN := Lib.hid (cells_new w3 (Lr.cells (⟨ZA, ZB, ZP, ZQ, ZR, .slice e0 m0 h0, .slice e1 m1 h1, .slice e2 m2 h2, .slice e3 m3 h3, .slice e4 m4 h4, .slice e5 m5 h5⟩ : Lr)) 38)
            have HOC := Lib.hid (Lr.one_cells ZA ZB ZP ZQ ZR e0 e1 e2 e3 e4 e5 m0 m1 m2 m3 m4 m5 h0 h1 h2 h3 h4 h5)
            have hsz3 := G_3.out.below.size
            clear hown3
            go_wp2_with (at_builtin; refine wpList_append_own_at _ rfl (.tmp 36) (.tmp 39) 53 rfl w.heap.size 38 i0 _ 11 184 Tryz.underlying53 hi hz0 hz1 hz2 rfl (by decide) _ ys.length (cellsL ys) rfl HOW.out ⟨w3.heap.size, 0, none⟩ 1 1 (Lr.cells (⟨ZA, ZB, ZP, ZQ, ZR, .slice e0 m0 h0, .slice e1 m1 h1, .slice e2 m2 h2, .slice e3 m3 h3, .slice e4 m4 h4, .slice e5 m5 h5⟩ : Lr)) rfl rfl HCN.out HOC.out (by unfold maxLen; omega) (by omega) (by simp; omega) ?_)
            intro v4 w4 hown4 hgrow4 _ hloc4
            have G_5 := Lib.hid (LGrow.app (z := (⟨ZA, ZB, ZP, ZQ, ZR, .slice e0 m0 h0, .slice e1 m1 h1, .slice e2 m2 h2, .slice e3 m3 h3, .slice e4 m4 h4, .slice e5 m5 h5⟩ : Lr)) G_4.out (B_3.out.alloc B_3.out.size (.cells #[.int .i64 ZA, .int .i64 ZB, .bool ZP.s, .slice e0 m0 h0, .slice e1 m1 h1, .bool ZQ.s, .slice e2 m2 h2, .slice e3 m3 h3, .bool ZR.s, .slice e4 m4 h4, .slice e5 m5 h5] 38)) (O_3.out.below ((Below.refl _ _).alloc (Nat.le_refl _) (.cells #[.int .i64 ZA, .int .i64 ZB, .bool ZP.s, .slice e0 m0 h0, .slice e1 m1 h1, .bool ZQ.s, .slice e2 m2 h2, .slice e3 m3 h3, .bool ZR.s, .slice e4 m4 h4, .slice e5 m5 h5] 38))) hown4 hgrow4 (hloc4.imp id (fun h => by rw [h]; simp)))
            clear hown4 hgrow4 hloc4 HOW HCN HOC G_3 B_3 O_3 hsz3
            have HD3 := Lib.hid (show dts (ys ++ [(⟨ZA, ZB, ZP, ZQ, ZR, .slice e0 m0 h0, .slice e1 m1 h1, .slice e2 m2 h2, .slice e3 m3 h3, .slice e4 m4 h4, .slice e5 m5 h5⟩ : Lr)]) = brTo (dts zs) (k + 1) by rw [dts_app, HD.out, ← HD2.out]; rfl)
            clear G_4
            go_wp2
            exact ⟨⟨k + 1, _, by omega, by go_num, by simp; omega, HD3.out, G_5.out⟩, by simp [intOf]; omega⟩
      · obtain rfl : k = n := by omega
        have HE := Lib.hid (show dts ys = r by rw [HD.out, ← HRr.out]; unfold brD; rw [if_pos rfl, dts_len, HL.out])
        go_wp2
        go_ret
        exact ⟨_, ys, rfl, HE.out, G_1.out⟩
end Go.Proofs.YtgjaennedihckaaGreat
