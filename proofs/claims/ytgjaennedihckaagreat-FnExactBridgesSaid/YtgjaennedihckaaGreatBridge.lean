/- Bridges of both sides. Conditions: none. -/
import Derived.Test.YtgjaennedihckaaGreatGraphS
import Derived.Test.YtgjaennedihckaaGreatConcat
import Derived.StillTailTactics
namespace Go.Proofs.YtgjaennedihckaaGreat
open Go.RowKit Nt Fr
set_option linter.unusedVariables false

theorem step_append_links {P : Program} {ops : Array Oper} {o : Oper} {a : Act} {w : World} {K : Act → World → Prop} {Q : Exit → Act → World → Prop} {E : Prop}
    (hg : o.guard = none) (s x : Operand) (t : TypeId) (hop : o.op = Op.call { callee := Callee.builtin Builtin.append, args := #[s, x], argTypes := #[t, t] })
    (base : Nat) (e : TypeId) (i : TypeInfo) (z : Value) (h1 : P.underlying t = some (.slice e)) (h2 : P.info? e = some i) (h3 : i.zero = some z) (h4 : i.size = 11) (h5 : i.bytes = 184) (h6 : z.cells.size = 11)
    (v : Value) (n : Nat) (xs : List Value) (hs : a.eval s = v) (hown : w.ownsRow base e 11 v n xs) (ad : Addr) (m c : Nat) (zs : List Lr) (hx : a.eval x = .slice (some ad) m c) (hA : LArg w (some ad) m zs) (h63 : n + m ≤ 4194304) (hbase : base ≤ w.heap.size)
    (hK : ∀ v' w', w'.ownsRow base e 11 v' (n + m) (xs ++ cellsL zs) → w.grownBy w' v.ownBlock → K (a.put o.dst v') w') :
    if Region.wanted o (yielded ops a.tmps) = true then Oper.wp P o a w K Q else E := by
  have hw : Region.wanted o (yielded ops a.tmps) = true := by simp [Region.wanted, hg]
  rw [if_pos hw]
  have hzl := hA.row.1
  refine wp_append_own w s x t hop base e i z 11 184 h1 h2 h3 h4 h5 h6 (by decide) v n xs hs hown ad m c (cellsL zs) hx (by rw [cellsL_len, hzl]) ?_ (larg_one hA) (by unfold maxLen; omega) (by omega) hbase (fun v' w' h1 h2 _ => hK v' w' h1 h2)
  rcases Nat.eq_zero_or_pos m with h0 | h0
  · subst h0
    obtain rfl : zs = [] := List.eq_nil_of_length_eq_zero hzl
    intro j u hj; simp [cellsL] at hj
  · exact larg_cells hA rfl h0
theorem okSet_pw {zs : List Lr} : okSet zs = true ↔ ((∀ z ∈ zs, z.ok = true) ∧ zs.Pairwise fun p q => lessK p.A p.B q.A q.B = true) := by
  constructor
  · intro h
    refine ⟨okSet_ok h, ?_⟩
    obtain ⟨_, ha⟩ := okSet_iff.mp h
    exact pairwise_of_adj (fun p q s h1 h2 => by unfold lessK at *; simp only [Bool.or_eq_true, Bool.and_eq_true, decide_eq_true_eq] at *; omega) zs fun j p q h1 h2 => ha j p q (List.getElem?_eq_some_iff.mp h2).1 h1 h2
  · rintro ⟨h1, h2⟩
    refine okSet_iff.mpr ⟨fun i z _ hz => h1 z (List.mem_of_getElem? hz), fun i y z hi hy hz => ?_⟩
    obtain ⟨a1, a2⟩ := List.getElem?_eq_some_iff.mp hy
    obtain ⟨b1, b2⟩ := List.getElem?_eq_some_iff.mp hz
    have := List.pairwise_iff_getElem.mp h2 i (i + 1) a1 b1 (by omega)
    rw [a2, b2] at this
    exact this
theorem okSet_sub {ys zs : List Lr} (h : okSet zs = true) (hs : ys.Sublist zs) : okSet ys = true := by
  obtain ⟨h1, h2⟩ := okSet_pw.mp h
  exact okSet_pw.mpr ⟨fun z hz => h1 z (hs.subset hz), h2.sublist hs⟩
/-- The ends of links. -/
def edsD (ds : List Dt) : Gr.Eds := ds.map fun d => (d.A, d.B)
theorem edsD_dts (zs : List Lr) : edsD (dts zs) = eds zs := by simp [edsD, dts, eds, Lr.d]
/-- Is the link at k a bridge? -/
def isBr (ds : List Dt) (k : Nat) (d : Dt) : Bool := !(Gr.compN (edsD (ds.eraseIdx k)) d.A 10).contains d.B
/-- The bridges among the first k. -/
def brTo (ds : List Dt) : Nat → List Dt
  | 0 => []
  | k + 1 => brTo ds k ++ (match ds[k]? with | some d => if isBr ds k d = true then [d] else [] | none => [])
def brD (ok : Bool) (ds : List Dt) : List Dt := if ok = true then brTo ds ds.length else []
theorem brTo_yes {ds : List Dt} {k : Nat} {d : Dt} (h : ds[k]? = some d) (hb : isBr ds k d = true) : brTo ds (k + 1) = brTo ds k ++ [d] := by simp [brTo, h, hb]
theorem brTo_no {ds : List Dt} {k : Nat} {d : Dt} (h : ds[k]? = some d) (hb : isBr ds k d = false) : brTo ds (k + 1) = brTo ds k := by simp [brTo, h, hb]
theorem brTo_len (ds : List Dt) (k : Nat) (hk : k ≤ ds.length) : (brTo ds k).length + lensD (brTo ds k) ≤ (ds.take k).length + lensD (ds.take k) := by
  induction k with
  | zero => simp [brTo, lensD]
  | succ k ih =>
    have hk' : k < ds.length := by omega
    have ih := ih (by omega)
    have app : ∀ a b : List Dt, lensD (a ++ b) = lensD a + lensD b := fun a b => by
      induction a with
      | nil => simp [lensD]
      | cons x r ih => simp only [List.cons_append, lensD, ih]; omega
    rw [List.take_succ_eq_append_getElem hk', app, List.length_append]
    simp only [brTo, List.getElem?_eq_getElem hk']
    split
    · rw [app, List.length_append]; simp only [List.length_cons, List.length_nil]; omega
    · rw [List.append_nil]; omega
theorem brD_like {ys zs : List Lr} {n : Nat} (hy : ys.length = n) (hz : zs.length = n) (h : ∀ (i : Nat) (y z : Lr), ys[i]? = some y → zs[i]? = some z → y.like z) : brD (okSet ys) (dts ys) = brD (okSet zs) (dts zs) := by
  rw [okSet_like hy hz h, dts_like hy hz h]
theorem brD_len {zs : List Lr} (h : zs.length + lensL zs ≤ 1048576) : (brD (okSet zs) (dts zs)).length + lensD (brD (okSet zs) (dts zs)) ≤ 1048576 := by
  unfold brD
  split
  · have := brTo_len (dts zs) (dts zs).length (Nat.le_refl _)
    rw [List.take_length, lensD_dts, dts_len] at this
    rw [dts_len]; omega
  · simp [lensD]
theorem eraseIdx_app {α : Type} (l : List α) (k : Nat) : l.eraseIdx k = l.take k ++ l.drop (k + 1) := List.eraseIdx_eq_take_drop_succ l k
theorem dts_erase (zs : List Lr) (k : Nat) : (dts zs).eraseIdx k = dts (zs.take k ++ zs.drop (k + 1)) := by rw [eraseIdx_app]; simp [dts]
/-- The first k links of a slice, and those from k on. -/
theorem LArg.take {w : World} {A : Option Addr} {n k : Nat} {zs : List Lr} (h : LArg w A n zs) (hk : k ≤ n) : LArg w A k (zs.take k) := by
  refine ⟨⟨by rw [List.length_take, h.row.1]; omega, fun hp => ?_, fun z hz => h.row.2.2 z (List.mem_of_mem_take hz)⟩, fun z hz => h.arg z (List.mem_of_mem_take hz)⟩
  obtain ⟨g, o, e, hg, hc⟩ := h.row.2.1 (by omega)
  refine ⟨g, o, e, hg, fun j hj i v hv => hc j (by rw [List.length_take] at hj; omega) i v ?_⟩
  rw [List.getElem_take] at hv; exact hv
theorem LArg.drop {w : World} {g o n k : Nat} {zs : List Lr} (h : LArg w (some ⟨g, o, none⟩) n zs) (hk : k ≤ n) : LArg w (some ⟨g, o + k * 11, none⟩) (n - k) (zs.drop k) := by
  refine ⟨⟨by rw [List.length_drop, h.row.1], fun hp => ?_, fun z hz => h.row.2.2 z (List.mem_of_mem_drop hz)⟩, fun z hz => h.arg z (List.mem_of_mem_drop hz)⟩
  obtain ⟨g', o', e, hg, hc⟩ := h.row.2.1 (by omega)
  obtain ⟨rfl, rfl⟩ : g = g' ∧ o = o' := by simpa using e
  refine ⟨g, o + k * 11, rfl, hg, fun j hj i v hv => ?_⟩
  rw [List.length_drop] at hj
  rw [List.getElem_drop] at hv
  have := hc (k + j) (by omega) i v hv
  rw [show o + (k + j) * 11 + i = o + k * 11 + j * 11 + i by omega] at this
  exact this
theorem LArg.none0 {w : World} {A : Option Addr} {zs : List Lr} (h : zs = []) : LArg w A 0 zs := by subst h; exact ⟨⟨rfl, fun hp => by omega, by simp⟩, by simp⟩
set_option maxRecDepth 100000 in
set_option maxHeartbeats 4000000 in
theorem bridges_i (A : Option Addr) (n c : Nat) (zs : List Lr) (w : World) (hA : LArg w A n zs) (hn : n ≤ 1048576) (hcn : n ≤ c) (hcm : c ≤ 1048576) :
    Calls Tryz.prog 35 #[.slice A n c] w (OwnLs (brD (okSet zs) (dts zs)) w) := by
  obtain ⟨i0, hi, hz0, hz1, hz2⟩ := info_parts info_link
  have HA := Lib.hid hA
  have HL := Lib.hid hA.row.1
  clear hA
  obtain ⟨ok, hok⟩ : ∃ q, okSet zs = q := ⟨_, rfl⟩
  have HOK := Lib.hid hok
  rw [hok]
  obtain ⟨r, hr⟩ : ∃ q, brD ok (dts zs) = q := ⟨_, rfl⟩
  have HRr := Lib.hid hr
  rw [hr]
  clear hok hr
  go_enter Tryz.func35, Tryz.ntmps35
  go_wp2_with fail
  refine (isLinkSet_i A n c zs _ HA.out hn (fun u h => isAscending_f A n c zs u h hn)).mono ?_
  rintro e w1 ⟨rfl, hb⟩
  rw [HOK.out]
  have B_1 := Lib.hid hb
  clear hb
  cases ok with
  | false =>
    have HE := Lib.hid (show [] = r by rw [← HRr.out]; rfl)
    go_wp2
    go_ret
    exact ⟨_, [], rfl, HE.out, LGrow.nil B_1.out⟩
  | true =>
    have HV := Lib.hid (okSet_ok HOK.out)
    go_wp2
    go_loopw [3, 12] (fun ov i wr => ∃ (k : Nat) (ys : List Lr), k ≤ n ∧ i = .int .i64 k ∧ ys.length ≤ k ∧ dts ys = brTo (dts zs) k ∧ LGrow w wr ov ys) (fun _ i _ => n - (intOf i).toNat)
    case atStart => exact ⟨0, [], Nat.zero_le _, rfl, Nat.zero_le _, rfl, LGrow.nil B_1.out⟩
    case round =>
      obtain ⟨k, ys, hk, rfl, hyl, hyd, hG⟩ := hrel
      have G_1 := Lib.hid hG
      have HD := Lib.hid hyd
      clear hG hyd B_1
      by_cases hkn : k < n
      · obtain ⟨g, o, z, rfl, hg, hz, hr, hc⟩ := (HA.out.below G_1.out.below).at_ hkn
        have hzk := HV.out z (List.mem_of_getElem? hz)
        obtain ⟨ZA, ZB, ZP, ZQ, ZR, a0, n0, d0, a1, n1, d1, a2, n2, d2, a3, n3, d3, a4, n4, d4, a5, n5, d5, rfl⟩ := LArg.shapes hr
        have HZ := Lib.hid (show (dts zs)[k]? = some ⟨ZA, ZB, ZP, ZQ, ZR⟩ from dts_at hz)
        have HZK := Lib.hid (show okK ZA ZB ZP ZQ ZR = true from hzk)
        have hzp := okK_parts HZK.out
        have c0 : wr.cell? ⟨g, o + k * 11, none⟩ = some (.int .i64 ZA) := hc 0 _ rfl
        have c1 : wr.cell? ⟨g, o + k * 11 + 1, none⟩ = some (.int .i64 ZB) := hc 1 _ rfl
        have c2 : wr.cell? ⟨g, o + k * 11 + 2, none⟩ = some (.bool ZP.s) := hc 2 _ rfl
        have c3 : wr.cell? ⟨g, o + k * 11 + 3, none⟩ = some ((.slice a0 n0 d0)) := hc 3 _ rfl
        have c4 : wr.cell? ⟨g, o + k * 11 + 4, none⟩ = some ((.slice a1 n1 d1)) := hc 4 _ rfl
        have c5 : wr.cell? ⟨g, o + k * 11 + 5, none⟩ = some (.bool ZQ.s) := hc 5 _ rfl
        have c6 : wr.cell? ⟨g, o + k * 11 + 6, none⟩ = some ((.slice a2 n2 d2)) := hc 6 _ rfl
        have c7 : wr.cell? ⟨g, o + k * 11 + 7, none⟩ = some ((.slice a3 n3 d3)) := hc 7 _ rfl
        have c8 : wr.cell? ⟨g, o + k * 11 + 8, none⟩ = some (.bool ZR.s) := hc 8 _ rfl
        have c9 : wr.cell? ⟨g, o + k * 11 + 9, none⟩ = some ((.slice a4 n4 d4)) := hc 9 _ rfl
        have c10 : wr.cell? ⟨g, o + k * 11 + 10, none⟩ = some ((.slice a5 n5 d5)) := hc 10 _ rfl
        have HR1 := Lib.hid (show LkA wr ZP ZQ ZR (.slice a0 n0 d0) (.slice a1 n1 d1) (.slice a2 n2 d2) (.slice a3 n3 d3) (.slice a4 n4 d4) (.slice a5 n5 d5) from hr)
        have G_2 := Lib.hid (G_1.out.alloc (.cells #[.int .i64 ZA, .int .i64 ZB, .bool ZP.s, (.slice a0 n0 d0), (.slice a1 n1 d1), .bool ZQ.s, (.slice a2 n2 d2), (.slice a3 n3 d3), .bool ZR.s, (.slice a4 n4 d4), (.slice a5 n5 d5)] 38))
        have K_2 := Lib.hid (HeldL.new wr [.int .i64 ZA, .int .i64 ZB, .bool ZP.s, (.slice a0 n0 d0), (.slice a1 n1 d1), .bool ZQ.s, (.slice a2 n2 d2), (.slice a3 n3 d3), .bool ZR.s, (.slice a4 n4 d4), (.slice a5 n5 d5)] 38)
        have hk0 : (0 : Int) ≤ (k : Int) := by omega
        have hk1 : (k : Int) ≤ (c : Int) := by omega
        have hk2 : IntKind.i64.wrap ((k : Int) + 1) = (k : Int) + 1 := by rw [IntKind.wrap_i64]; omega
        have hk3 : (k : Int) + 1 ≤ (n : Int) := by omega
        have hk4 : (0 : Int) ≤ (k : Int) + 1 := by omega
        have hk5 : k ≤ c := by omega
        have hk6 : k + 1 ≤ n := by omega
        clear hz hr hc hzk G_1
        obtain ⟨rest, hrest⟩ : ∃ q, zs.take k ++ zs.drop (k + 1) = q := ⟨_, rfl⟩
        have HRS := Lib.hid hrest
        have HRO := Lib.hid (show okSet rest = true by rw [← hrest]; exact okSet_sub HOK.out (by rw [← eraseIdx_app]; exact List.eraseIdx_sublist _ _))
        have HRL := Lib.hid (show rest.length = k + (n - (k + 1)) by rw [← hrest, List.length_append, List.length_take, List.length_drop, HL.out]; omega)
        obtain ⟨cl, hcl⟩ : ∃ q, Gr.compN (eds rest) ZA 10 = q := ⟨_, rfl⟩
        have hcn2 : cl.length ≤ 4194304 := by rw [← hcl]; have h := compA_len rest ZA; simpa [compA, HRO.out] using h
        have HBR := Lib.hid (show isBr (dts zs) k ⟨ZA, ZB, ZP, ZQ, ZR⟩ = !cl.contains ZB by unfold isBr; rw [dts_erase, edsD_dts, hrest, hcl])
        have HCL := Lib.hid hcl
        clear hrest hcl
        by_cases hck : c = k + 1
        · have hck3 : (c = k + 1) = True := by simp [hck]
          have HNK := Lib.hid (show n - (k + 1) = 0 by omega)
          clear hck
          have G_1w := Lib.hid (G_2.out.below)
          go_upto_region 7 with fail
          go_still_tail 7, (by kernel_rfl)
          change wpList _ _ _ _ _ (wr.alloc (.cells #[.int .i64 ZA, .int .i64 ZB, .bool ZP.s, (.slice a0 n0 d0), (.slice a1 n1 d1), .bool ZQ.s, (.slice a2 n2 d2), (.slice a3 n3 d3), .bool ZR.s, (.slice a4 n4 d4), (.slice a5 n5 d5)] 38)).drew
          go_wp2_with fail
          have B_2 := Lib.hid (show Below (wr.alloc (.cells #[.int .i64 ZA, .int .i64 ZB, .bool ZP.s, (.slice a0 n0 d0), (.slice a1 n1 d1), .bool ZQ.s, (.slice a2 n2 d2), (.slice a3 n3 d3), .bool ZR.s, (.slice a4 n4 d4), (.slice a5 n5 d5)] 38)).heap.size (wr.alloc (.cells #[.int .i64 ZA, .int .i64 ZB, .bool ZP.s, (.slice a0 n0 d0), (.slice a1 n1 d1), .bool ZQ.s, (.slice a2 n2 d2), (.slice a3 n3 d3), .bool ZR.s, (.slice a4 n4 d4), (.slice a5 n5 d5)] 38)) ((wr.alloc (.cells #[.int .i64 ZA, .int .i64 ZB, .bool ZP.s, (.slice a0 n0 d0), (.slice a1 n1 d1), .bool ZQ.s, (.slice a2 n2 d2), (.slice a3 n3 d3), .bool ZR.s, (.slice a4 n4 d4), (.slice a5 n5 d5)] 38)).alloc (.cells #[.slice (some ⟨g, o, none⟩) k c, .slice (some ⟨g, o, none⟩) (n - (k + 1)) (c - (k + 1))] 53)).drew from ((Below.refl _ _).alloc (Nat.le_refl _) _).drew)
          obtain ⟨wd, hwd⟩ : ∃ u, ((wr.alloc (.cells #[.int .i64 ZA, .int .i64 ZB, .bool ZP.s, (.slice a0 n0 d0), (.slice a1 n1 d1), .bool ZQ.s, (.slice a2 n2 d2), (.slice a3 n3 d3), .bool ZR.s, (.slice a4 n4 d4), (.slice a5 n5 d5)] 38)).alloc (.cells #[.slice (some ⟨g, o, none⟩) k c, .slice (some ⟨g, o, none⟩) (n - (k + 1)) (c - (k + 1))] 53)).drew = u := ⟨_, rfl⟩
          have hgb : wr.heap.size + 1 < wd.heap.size := by rw [← hwd]; simp
          have hk_0 : wd.cell? ⟨wr.heap.size + 1, 0, none⟩ = some (.slice (some ⟨g, o, none⟩) k c) := by rw [← hwd]; exact (HeldL.new_at (wr.alloc (.cells #[.int .i64 ZA, .int .i64 ZB, .bool ZP.s, (.slice a0 n0 d0), (.slice a1 n1 d1), .bool ZQ.s, (.slice a2 n2 d2), (.slice a3 n3 d3), .bool ZR.s, (.slice a4 n4 d4), (.slice a5 n5 d5)] 38)) (wr.heap.size + 1) [_, _] 53 (by simp)).drew.cell 0 _ rfl
          have hk_1 : wd.cell? ⟨wr.heap.size + 1, 1, none⟩ = some (.slice (some ⟨g, o, none⟩) (n - (k + 1)) (c - (k + 1))) := by rw [← hwd]; exact (HeldL.new_at (wr.alloc (.cells #[.int .i64 ZA, .int .i64 ZB, .bool ZP.s, (.slice a0 n0 d0), (.slice a1 n1 d1), .bool ZQ.s, (.slice a2 n2 d2), (.slice a3 n3 d3), .bool ZR.s, (.slice a4 n4 d4), (.slice a5 n5 d5)] 38)) (wr.heap.size + 1) [_, _] 53 (by simp)).drew.cell 1 _ rfl
          rw [hwd] at B_2 ⊢
          clear hwd
          refine (concatLinks_f (wr.heap.size + 1) (some ⟨g, o, none⟩) (some ⟨g, o, none⟩) k (n - (k + 1)) c (c - (k + 1)) (zs.take k) (zs.drop (k + 1)) _ (((HA.out.below G_1w.out).below B_2.out).take (by omega)) (show LArg _ _ (n - (k + 1)) _ by rw [HNK.out]; exact LArg.none0 (List.drop_eq_nil_of_le (by rw [HL.out]; have := HNK.out; omega))) (by simp) (by simp) (by omega) hgb hk_0 hk_1).mono ?_
          have HRL3 := Lib.hid (show rest.length = k + (n - (k + 1)) by have := HRL.out; omega)
          rintro e w3 ⟨v3, rfl, hown3, hb3⟩
          rw [HRS.out] at hown3
          have hall3 := (B_2.out.trans (hb3.mono B_2.out.size))
          obtain ⟨A3, q3, rfl, hl3⟩ := larg_row (w := w3) (ys := rest) (base := wd.heap.size) (by rw [HRL3.out]; exact hown3) (fun y hy => by have h := ((HA.out.below G_1w.out).below hall3).arg y (by rw [← HRS.out] at hy; exact (List.mem_append.mp hy).elim List.mem_of_mem_take List.mem_of_mem_drop); exact h)
          rw [HRL3.out] at hl3 ⊢
          obtain ⟨m3, hm3⟩ : ∃ q, k + (n - (k + 1)) = q := ⟨_, rfl⟩
          have hm3b : m3 ≤ 1048576 := by omega
          rw [hm3] at hl3 ⊢
          have L_3 := Lib.hid hl3
          have G_3 := Lib.hid (G_2.out.call hall3)
          have K_3 := Lib.hid (K_2.out.after hall3)
          have R_3 := Lib.hid ((HR1.out.below ((Below.refl _ _).alloc (Nat.le_refl _) (.cells #[.int .i64 ZA, .int .i64 ZB, .bool ZP.s, (.slice a0 n0 d0), (.slice a1 n1 d1), .bool ZQ.s, (.slice a2 n2 d2), (.slice a3 n3 d3), .bool ZR.s, (.slice a4 n4 d4), (.slice a5 n5 d5)] 38))).below hall3)
          clear hown3 hb3 hall3 hl3 B_2 G_2 K_2 hk_0 hk_1 hgb hm3
          go_wp2_with fail
          refine (graphOf_f A3 m3 q3 rest _ L_3.out hm3b HRO.out).mono ?_
          rintro e w4 ⟨rfl, ⟨D4, hG4⟩, hb⟩
          have M_4 := Lib.hid hG4
          have G_4 := Lib.hid (G_3.out.call hb)
          have K_4 := Lib.hid (K_3.out.after hb)
          have R_4 := Lib.hid (R_3.out.below hb)
          clear hG4 hb G_3 K_3 R_3 c0 c1 c2 c3 c4 c5 c6 c7 c8 c9 c10
          obtain ⟨b0, hb0⟩ : ∃ q, cl.contains ZB = q := ⟨_, rfl⟩
          have HB0 := Lib.hid hb0
          clear hb0
          have x0 := K_4.out.cell 0 _ rfl
          have x1 := K_4.out.cell 1 _ rfl
          go_wp2
          go_region_held3 (fun w' => w'.cell? ⟨wr.heap.size, 0, none⟩ = some (.int .i64 ZA) ∧ w'.cell? ⟨wr.heap.size, 1, none⟩ = some (.int .i64 ZB)) (go_keep)
            (first
              | (go_at_call 57
                 refine (componentOf_f _ _ _ (eds rest) _ D4 ZA _ M_4.out.drew (by omega) (okSet_eds HRO.out) (WalkArith.wf_i64 (by omega))).mono ?_
                 rintro e w5 ⟨u5, rfl, ho, hb⟩
                 rw [HCL.out] at ho
                 obtain ⟨Ac, cc, rfl⟩ := ho.shape
                 obtain ⟨nc, hnc⟩ : ∃ q, (ints cl).length = q := ⟨_, rfl⟩
                 rw [hnc] at ho ⊢
                 have hnc2 : nc ≤ 4194304 := by rw [ints_len] at hnc; omega
                 have O_5 := Lib.hid ho.row
                 have G_45 := Lib.hid ((show LGrow w w4.drew _ _ from ⟨G_4.out.below.drew, G_4.out.own, G_4.out.row, G_4.out.br⟩).call hb)
                 have K_5 := Lib.hid (K_4.out.drew.after hb)
                 have R_5 := Lib.hid ((R_4.out.below ((Below.refl _ _).drew)).below hb)
                 have y0 := K_5.out.cell 0 _ rfl
                 have y1 := K_5.out.cell 1 _ rfl
                 clear ho hb hnc G_4)
              | (go_at_call 59
                 refine (containsInts_f Ac nc cc cl ZB _ O_5.out (by omega)).mono ?_
                 rintro e w' ⟨rfl, hw⟩
                 obtain rfl := hw.symm
                 rw [HB0.out]))
          have G_4 := Lib.hid G_45.out
          clear G_45
          clear x0 x1 y0 y1
          cases b0 with
          | true =>
            have HD2 := Lib.hid (show dts ys = brTo (dts zs) (k + 1) by rw [brTo_no HZ.out (by rw [HBR.out, HB0.out]; rfl), HD.out])
            go_wp2
            exact ⟨⟨k + 1, ys, by omega, by go_num, by omega, HD2.out, G_4.out⟩, by simp [intOf]; omega⟩
          | false =>
            have HD2 := Lib.hid (show brTo (dts zs) k ++ [⟨ZA, ZB, ZP, ZQ, ZR⟩] = brTo (dts zs) (k + 1) by rw [brTo_yes HZ.out (by rw [HBR.out, HB0.out]; rfl)])
            have x0 := K_5.out.cell 0 _ rfl
            have x1 := K_5.out.cell 1 _ rfl
            have x2 := K_5.out.cell 2 _ rfl
            have x3 := K_5.out.cell 3 _ rfl
            have x4 := K_5.out.cell 4 _ rfl
            have x5 := K_5.out.cell 5 _ rfl
            have x6 := K_5.out.cell 6 _ rfl
            have x7 := K_5.out.cell 7 _ rfl
            have x8 := K_5.out.cell 8 _ rfl
            have x9 := K_5.out.cell 9 _ rfl
            have x10 := K_5.out.cell 10 _ rfl
            go_wp2_with fail
            refine (linkCopied_f ZA ZB ZP ZQ ZR (.slice a0 n0 d0) (.slice a1 n1 d1) (.slice a2 n2 d2) (.slice a3 n3 d3) (.slice a4 n4 d4) (.slice a5 n5 d5) _ HZK.out R_5.out).mono ?_
            rintro e w3 ⟨x0, x1, x2, x3, x4, x5, rfl, ho, hb⟩
            obtain ⟨e0, m0, h0, rfl⟩ := (ho.at_ 0 rfl).shape3
            obtain ⟨e1, m1, h1, rfl⟩ := (ho.at_ 1 rfl).shape3
            obtain ⟨e2, m2, h2, rfl⟩ := (ho.at_ 2 rfl).shape3
            obtain ⟨e3, m3, h3, rfl⟩ := (ho.at_ 3 rfl).shape3
            obtain ⟨e4, m4, h4, rfl⟩ := (ho.at_ 4 rfl).shape3
            obtain ⟨e5, m5, h5, rfl⟩ := (ho.at_ 5 rfl).shape3
            have B_3 := Lib.hid hb
            have O_3 := Lib.hid (show Owns w3 _ (Lr.rows (⟨ZA, ZB, ZP, ZQ, ZR, .slice e0 m0 h0, .slice e1 m1 h1, .slice e2 m2 h2, .slice e3 m3 h3, .slice e4 m4 h4, .slice e5 m5 h5⟩ : Lr)) from ho)
            have G_3 := Lib.hid (G_4.out.call hb)
            clear ho hb
            have hown3 := (G_3.out.alloc (.cells #[.int .i64 ZA, .int .i64 ZB, .bool ZP.s, .slice e0 m0 h0, .slice e1 m1 h1, .bool ZQ.s, .slice e2 m2 h2, .slice e3 m3 h3, .bool ZR.s, .slice e4 m4 h4, .slice e5 m5 h5] 38)).own
            have HOW := Lib.hid hown3
            have HCN := Lib.hid (cells_new w3 (Lr.cells (⟨ZA, ZB, ZP, ZQ, ZR, .slice e0 m0 h0, .slice e1 m1 h1, .slice e2 m2 h2, .slice e3 m3 h3, .slice e4 m4 h4, .slice e5 m5 h5⟩ : Lr)) 38)
            have HOC := Lib.hid (Lr.one_cells ZA ZB ZP ZQ ZR e0 e1 e2 e3 e4 e5 m0 m1 m2 m3 m4 m5 h0 h1 h2 h3 h4 h5)
            have hsz3 := G_3.out.below.size
            clear hown3
            go_wp2_with (at_builtin; refine wpList_append_own_at _ rfl (.tmp 35) (.tmp 38) 53 rfl w.heap.size 38 i0 _ 11 184 Tryz.underlying53 hi hz0 hz1 hz2 rfl (by decide) _ ys.length (cellsL ys) rfl HOW.out ⟨w3.heap.size, 0, none⟩ 1 1 (Lr.cells (⟨ZA, ZB, ZP, ZQ, ZR, .slice e0 m0 h0, .slice e1 m1 h1, .slice e2 m2 h2, .slice e3 m3 h3, .slice e4 m4 h4, .slice e5 m5 h5⟩ : Lr)) rfl rfl HCN.out HOC.out (by unfold maxLen; omega) (by omega) (by simp; omega) ?_)
            intro v4 w4 hown4 hgrow4 _ hloc4
            have G_5 := Lib.hid (LGrow.app (z := (⟨ZA, ZB, ZP, ZQ, ZR, .slice e0 m0 h0, .slice e1 m1 h1, .slice e2 m2 h2, .slice e3 m3 h3, .slice e4 m4 h4, .slice e5 m5 h5⟩ : Lr)) G_4.out (B_3.out.alloc B_3.out.size (.cells #[.int .i64 ZA, .int .i64 ZB, .bool ZP.s, .slice e0 m0 h0, .slice e1 m1 h1, .bool ZQ.s, .slice e2 m2 h2, .slice e3 m3 h3, .bool ZR.s, .slice e4 m4 h4, .slice e5 m5 h5] 38)) (O_3.out.below ((Below.refl _ _).alloc (Nat.le_refl _) (.cells #[.int .i64 ZA, .int .i64 ZB, .bool ZP.s, .slice e0 m0 h0, .slice e1 m1 h1, .bool ZQ.s, .slice e2 m2 h2, .slice e3 m3 h3, .bool ZR.s, .slice e4 m4 h4, .slice e5 m5 h5] 38))) hown4 hgrow4 (hloc4.imp id (fun h => by rw [h]; simp)))
            clear hown4 hgrow4 hloc4 HOW HCN HOC G_3 B_3 O_3 hsz3
            have HD3 := Lib.hid (show dts (ys ++ [(⟨ZA, ZB, ZP, ZQ, ZR, .slice e0 m0 h0, .slice e1 m1 h1, .slice e2 m2 h2, .slice e3 m3 h3, .slice e4 m4 h4, .slice e5 m5 h5⟩ : Lr)]) = brTo (dts zs) (k + 1) by rw [dts_app, HD.out, ← HD2.out]; rfl)
            clear G_4
            go_wp2
            exact ⟨⟨k + 1, _, by omega, by go_num, by simp; omega, HD3.out, G_5.out⟩, by simp [intOf]; omega⟩
        · have hck2 : ¬ c - (k + 1) = 0 := by omega
          have G_1w := Lib.hid (G_2.out.below)
          go_upto_region 7 with fail
          go_still_tail 7, (by kernel_rfl)
          change wpList _ _ _ _ _ (wr.alloc (.cells #[.int .i64 ZA, .int .i64 ZB, .bool ZP.s, (.slice a0 n0 d0), (.slice a1 n1 d1), .bool ZQ.s, (.slice a2 n2 d2), (.slice a3 n3 d3), .bool ZR.s, (.slice a4 n4 d4), (.slice a5 n5 d5)] 38)).drew
          go_wp2_with fail
          have B_2 := Lib.hid (show Below (wr.alloc (.cells #[.int .i64 ZA, .int .i64 ZB, .bool ZP.s, (.slice a0 n0 d0), (.slice a1 n1 d1), .bool ZQ.s, (.slice a2 n2 d2), (.slice a3 n3 d3), .bool ZR.s, (.slice a4 n4 d4), (.slice a5 n5 d5)] 38)).heap.size (wr.alloc (.cells #[.int .i64 ZA, .int .i64 ZB, .bool ZP.s, (.slice a0 n0 d0), (.slice a1 n1 d1), .bool ZQ.s, (.slice a2 n2 d2), (.slice a3 n3 d3), .bool ZR.s, (.slice a4 n4 d4), (.slice a5 n5 d5)] 38)) ((wr.alloc (.cells #[.int .i64 ZA, .int .i64 ZB, .bool ZP.s, (.slice a0 n0 d0), (.slice a1 n1 d1), .bool ZQ.s, (.slice a2 n2 d2), (.slice a3 n3 d3), .bool ZR.s, (.slice a4 n4 d4), (.slice a5 n5 d5)] 38)).alloc (.cells #[.slice (some ⟨g, o, none⟩) k c, .slice (some ⟨g, o + (k + 1) * 11, none⟩) (n - (k + 1)) (c - (k + 1))] 53)).drew from ((Below.refl _ _).alloc (Nat.le_refl _) _).drew)
          obtain ⟨wd, hwd⟩ : ∃ u, ((wr.alloc (.cells #[.int .i64 ZA, .int .i64 ZB, .bool ZP.s, (.slice a0 n0 d0), (.slice a1 n1 d1), .bool ZQ.s, (.slice a2 n2 d2), (.slice a3 n3 d3), .bool ZR.s, (.slice a4 n4 d4), (.slice a5 n5 d5)] 38)).alloc (.cells #[.slice (some ⟨g, o, none⟩) k c, .slice (some ⟨g, o + (k + 1) * 11, none⟩) (n - (k + 1)) (c - (k + 1))] 53)).drew = u := ⟨_, rfl⟩
          have hgb : wr.heap.size + 1 < wd.heap.size := by rw [← hwd]; simp
          have hk_0 : wd.cell? ⟨wr.heap.size + 1, 0, none⟩ = some (.slice (some ⟨g, o, none⟩) k c) := by rw [← hwd]; exact (HeldL.new_at (wr.alloc (.cells #[.int .i64 ZA, .int .i64 ZB, .bool ZP.s, (.slice a0 n0 d0), (.slice a1 n1 d1), .bool ZQ.s, (.slice a2 n2 d2), (.slice a3 n3 d3), .bool ZR.s, (.slice a4 n4 d4), (.slice a5 n5 d5)] 38)) (wr.heap.size + 1) [_, _] 53 (by simp)).drew.cell 0 _ rfl
          have hk_1 : wd.cell? ⟨wr.heap.size + 1, 1, none⟩ = some (.slice (some ⟨g, o + (k + 1) * 11, none⟩) (n - (k + 1)) (c - (k + 1))) := by rw [← hwd]; exact (HeldL.new_at (wr.alloc (.cells #[.int .i64 ZA, .int .i64 ZB, .bool ZP.s, (.slice a0 n0 d0), (.slice a1 n1 d1), .bool ZQ.s, (.slice a2 n2 d2), (.slice a3 n3 d3), .bool ZR.s, (.slice a4 n4 d4), (.slice a5 n5 d5)] 38)) (wr.heap.size + 1) [_, _] 53 (by simp)).drew.cell 1 _ rfl
          rw [hwd] at B_2 ⊢
          clear hwd
          refine (concatLinks_f (wr.heap.size + 1) (some ⟨g, o, none⟩) (some ⟨g, o + (k + 1) * 11, none⟩) k (n - (k + 1)) c (c - (k + 1)) (zs.take k) (zs.drop (k + 1)) _ (((HA.out.below G_1w.out).below B_2.out).take (by omega)) (((HA.out.below G_1w.out).below B_2.out).drop (by omega)) (by simp) (by simp) (by omega) hgb hk_0 hk_1).mono ?_
          have HRL3 := Lib.hid (show rest.length = k + (n - (k + 1)) by have := HRL.out; omega)
          rintro e w3 ⟨v3, rfl, hown3, hb3⟩
          rw [HRS.out] at hown3
          have hall3 := (B_2.out.trans (hb3.mono B_2.out.size))
          obtain ⟨A3, q3, rfl, hl3⟩ := larg_row (w := w3) (ys := rest) (base := wd.heap.size) (by rw [HRL3.out]; exact hown3) (fun y hy => by have h := ((HA.out.below G_1w.out).below hall3).arg y (by rw [← HRS.out] at hy; exact (List.mem_append.mp hy).elim List.mem_of_mem_take List.mem_of_mem_drop); exact h)
          rw [HRL3.out] at hl3 ⊢
          obtain ⟨m3, hm3⟩ : ∃ q, k + (n - (k + 1)) = q := ⟨_, rfl⟩
          have hm3b : m3 ≤ 1048576 := by omega
          rw [hm3] at hl3 ⊢
          have L_3 := Lib.hid hl3
          have G_3 := Lib.hid (G_2.out.call hall3)
          have K_3 := Lib.hid (K_2.out.after hall3)
          have R_3 := Lib.hid ((HR1.out.below ((Below.refl _ _).alloc (Nat.le_refl _) (.cells #[.int .i64 ZA, .int .i64 ZB, .bool ZP.s, (.slice a0 n0 d0), (.slice a1 n1 d1), .bool ZQ.s, (.slice a2 n2 d2), (.slice a3 n3 d3), .bool ZR.s, (.slice a4 n4 d4), (.slice a5 n5 d5)] 38))).below hall3)
          clear hown3 hb3 hall3 hl3 B_2 G_2 K_2 hk_0 hk_1 hgb hm3
          go_wp2_with fail
          refine (graphOf_f A3 m3 q3 rest _ L_3.out hm3b HRO.out).mono ?_
          rintro e w4 ⟨rfl, ⟨D4, hG4⟩, hb⟩
          have M_4 := Lib.hid hG4
          have G_4 := Lib.hid (G_3.out.call hb)
          have K_4 := Lib.hid (K_3.out.after hb)
          have R_4 := Lib.hid (R_3.out.below hb)
          clear hG4 hb G_3 K_3 R_3 c0 c1 c2 c3 c4 c5 c6 c7 c8 c9 c10
          obtain ⟨b0, hb0⟩ : ∃ q, cl.contains ZB = q := ⟨_, rfl⟩
          have HB0 := Lib.hid hb0
          clear hb0
          have x0 := K_4.out.cell 0 _ rfl
          have x1 := K_4.out.cell 1 _ rfl
          go_wp2
          go_region_held3 (fun w' => w'.cell? ⟨wr.heap.size, 0, none⟩ = some (.int .i64 ZA) ∧ w'.cell? ⟨wr.heap.size, 1, none⟩ = some (.int .i64 ZB)) (go_keep)
            (first
              | (go_at_call 57
                 refine (componentOf_f _ _ _ (eds rest) _ D4 ZA _ M_4.out.drew (by omega) (okSet_eds HRO.out) (WalkArith.wf_i64 (by omega))).mono ?_
                 rintro e w5 ⟨u5, rfl, ho, hb⟩
                 rw [HCL.out] at ho
                 obtain ⟨Ac, cc, rfl⟩ := ho.shape
                 obtain ⟨nc, hnc⟩ : ∃ q, (ints cl).length = q := ⟨_, rfl⟩
                 rw [hnc] at ho ⊢
                 have hnc2 : nc ≤ 4194304 := by rw [ints_len] at hnc; omega
                 have O_5 := Lib.hid ho.row
                 have G_45 := Lib.hid ((show LGrow w w4.drew _ _ from ⟨G_4.out.below.drew, G_4.out.own, G_4.out.row, G_4.out.br⟩).call hb)
                 have K_5 := Lib.hid (K_4.out.drew.after hb)
                 have R_5 := Lib.hid ((R_4.out.below ((Below.refl _ _).drew)).below hb)
                 have y0 := K_5.out.cell 0 _ rfl
                 have y1 := K_5.out.cell 1 _ rfl
                 clear ho hb hnc G_4)
              | (go_at_call 59
                 refine (containsInts_f Ac nc cc cl ZB _ O_5.out (by omega)).mono ?_
                 rintro e w' ⟨rfl, hw⟩
                 obtain rfl := hw.symm
                 rw [HB0.out]))
          have G_4 := Lib.hid G_45.out
          clear G_45
          clear x0 x1 y0 y1
          cases b0 with
          | true =>
            have HD2 := Lib.hid (show dts ys = brTo (dts zs) (k + 1) by rw [brTo_no HZ.out (by rw [HBR.out, HB0.out]; rfl), HD.out])
            go_wp2
            exact ⟨⟨k + 1, ys, by omega, by go_num, by omega, HD2.out, G_4.out⟩, by simp [intOf]; omega⟩
          | false =>
            have HD2 := Lib.hid (show brTo (dts zs) k ++ [⟨ZA, ZB, ZP, ZQ, ZR⟩] = brTo (dts zs) (k + 1) by rw [brTo_yes HZ.out (by rw [HBR.out, HB0.out]; rfl)])
            have x0 := K_5.out.cell 0 _ rfl
            have x1 := K_5.out.cell 1 _ rfl
            have x2 := K_5.out.cell 2 _ rfl
            have x3 := K_5.out.cell 3 _ rfl
            have x4 := K_5.out.cell 4 _ rfl
            have x5 := K_5.out.cell 5 _ rfl
            have x6 := K_5.out.cell 6 _ rfl
            have x7 := K_5.out.cell 7 _ rfl
            have x8 := K_5.out.cell 8 _ rfl
            have x9 := K_5.out.cell 9 _ rfl
            have x10 := K_5.out.cell 10 _ rfl
            go_wp2_with fail
            refine (linkCopied_f ZA ZB ZP ZQ ZR (.slice a0 n0 d0) (.slice a1 n1 d1) (.slice a2 n2 d2) (.slice a3 n3 d3) (.slice a4 n4 d4) (.slice a5 n5 d5) _ HZK.out R_5.out).mono ?_
            rintro e w3 ⟨x0, x1, x2, x3, x4, x5, rfl, ho, hb⟩
            obtain ⟨e0, m0, h0, rfl⟩ := (ho.at_ 0 rfl).shape3
            obtain ⟨e1, m1, h1, rfl⟩ := (ho.at_ 1 rfl).shape3
            obtain ⟨e2, m2, h2, rfl⟩ := (ho.at_ 2 rfl).shape3
            obtain ⟨e3, m3, h3, rfl⟩ := (ho.at_ 3 rfl).shape3
            obtain ⟨e4, m4, h4, rfl⟩ := (ho.at_ 4 rfl).shape3
            obtain ⟨e5, m5, h5, rfl⟩ := (ho.at_ 5 rfl).shape3
            have B_3 := Lib.hid hb
            have O_3 := Lib.hid (show Owns w3 _ (Lr.rows (⟨ZA, ZB, ZP, ZQ, ZR, .slice e0 m0 h0, .slice e1 m1 h1, .slice e2 m2 h2, .slice e3 m3 h3, .slice e4 m4 h4, .slice e5 m5 h5⟩ : Lr)) from ho)
            have G_3 := Lib.hid (G_4.out.call hb)
            clear ho hb
            have hown3 := (G_3.out.alloc (.cells #[.int .i64 ZA, .int .i64 ZB, .bool ZP.s, .slice e0 m0 h0, .slice e1 m1 h1, .bool ZQ.s, .slice e2 m2 h2, .slice e3 m3 h3, .bool ZR.s, .slice e4 m4 h4, .slice e5 m5 h5] 38)).own
            have HOW := Lib.hid hown3
            have HCN := Lib.hid (cells_new w3 (Lr.cells (⟨ZA, ZB, ZP, ZQ, ZR, .slice e0 m0 h0, .slice e1 m1 h1, .slice e2 m2 h2, .slice e3 m3 h3, .slice e4 m4 h4, .slice e5 m5 h5⟩ : Lr)) 38)
            have HOC := Lib.hid (Lr.one_cells ZA ZB ZP ZQ ZR e0 e1 e2 e3 e4 e5 m0 m1 m2 m3 m4 m5 h0 h1 h2 h3 h4 h5)
            have hsz3 := G_3.out.below.size
            clear hown3
            go_wp2_with (at_builtin; refine wpList_append_own_at _ rfl (.tmp 35) (.tmp 38) 53 rfl w.heap.size 38 i0 _ 11 184 Tryz.underlying53 hi hz0 hz1 hz2 rfl (by decide) _ ys.length (cellsL ys) rfl HOW.out ⟨w3.heap.size, 0, none⟩ 1 1 (Lr.cells (⟨ZA, ZB, ZP, ZQ, ZR, .slice e0 m0 h0, .slice e1 m1 h1, .slice e2 m2 h2, .slice e3 m3 h3, .slice e4 m4 h4, .slice e5 m5 h5⟩ : Lr)) rfl rfl HCN.out HOC.out (by unfold maxLen; omega) (by omega) (by simp; omega) ?_)
            intro v4 w4 hown4 hgrow4 _ hloc4
            have G_5 := Lib.hid (LGrow.app (z := (⟨ZA, ZB, ZP, ZQ, ZR, .slice e0 m0 h0, .slice e1 m1 h1, .slice e2 m2 h2, .slice e3 m3 h3, .slice e4 m4 h4, .slice e5 m5 h5⟩ : Lr)) G_4.out (B_3.out.alloc B_3.out.size (.cells #[.int .i64 ZA, .int .i64 ZB, .bool ZP.s, .slice e0 m0 h0, .slice e1 m1 h1, .bool ZQ.s, .slice e2 m2 h2, .slice e3 m3 h3, .bool ZR.s, .slice e4 m4 h4, .slice e5 m5 h5] 38)) (O_3.out.below ((Below.refl _ _).alloc (Nat.le_refl _) (.cells #[.int .i64 ZA, .int .i64 ZB, .bool ZP.s, .slice e0 m0 h0, .slice e1 m1 h1, .bool ZQ.s, .slice e2 m2 h2, .slice e3 m3 h3, .bool ZR.s, .slice e4 m4 h4, .slice e5 m5 h5] 38))) hown4 hgrow4 (hloc4.imp id (fun h => by rw [h]; simp)))
            clear hown4 hgrow4 hloc4 HOW HCN HOC G_3 B_3 O_3 hsz3
            have HD3 := Lib.hid (show dts (ys ++ [(⟨ZA, ZB, ZP, ZQ, ZR, .slice e0 m0 h0, .slice e1 m1 h1, .slice e2 m2 h2, .slice e3 m3 h3, .slice e4 m4 h4, .slice e5 m5 h5⟩ : Lr)]) = brTo (dts zs) (k + 1) by rw [dts_app, HD.out, ← HD2.out]; rfl)
            clear G_4
            go_wp2
            exact ⟨⟨k + 1, _, by omega, by go_num, by simp; omega, HD3.out, G_5.out⟩, by simp [intOf]; omega⟩
      · obtain rfl : k = n := by omega
        have HE := Lib.hid (show dts ys = r by rw [HD.out, ← HRr.out]; unfold brD; rw [if_pos rfl, dts_len, HL.out])
        go_wp2
        go_ret
        exact ⟨_, ys, rfl, HE.out, G_1.out⟩
end Go.Proofs.YtgjaennedihckaaGreat
