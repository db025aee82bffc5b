/- Contracts of NatDiv, of the model (with l02Div) and of the program. Conditions: none. -/
import Derived.Test.YtdilbhkdkppodaaProg
import Derived.Test.YtdilbhkdkppodaaDivSpec1
namespace Go.Proofs.Ytdilbhkdkppodaa
open Go.RowKit Nt
set_option linter.unusedVariables false

/-- 'append' of whatever slice reads as news to a row of one's own. -/
theorem wpList_append_row {P : Program} {w : World} {ops : Array Oper} {rest : List Oper} {o : Oper} {a : Act} {Q : Exit → Act → World → Prop} (hgd : o.guard = none) (s x : Operand) (t : TypeId)
    (ho : o.op = .call { callee := .builtin .append, args := #[s, x], argTypes := #[t, t] })
    (base : Nat) (e : TypeId) (i : TypeInfo) (z : Value) (bytes : Nat) (ht : P.underlying t = some (.slice e)) (hi : P.info? e = some i) (hz : i.zero = some z)
    (hsize : i.size = 1) (hby : i.bytes = bytes) (hzs : z.cells.size = 1)
    (v : Value) (n : Nat) (xs : List Value) (hs : a.eval s = v) (hown : w.ownsRow base e 1 v n xs)
    (A : Option Addr) (m c : Nat) (news : List Value) (hx : a.eval x = .slice A m c) (hrow : VRow w A m news) (hnil : A = none → c = 0) (h1 : ∀ u ∈ news, u.oneCell' = true)
    (h63 : n + m ≤ maxLen) (hbytes : (n + m) * bytes ≤ 140737488355328) (hbase : base ≤ w.heap.size)
    (h : ∀ v' w', w'.ownsRow base e 1 v' (n + m) (xs ++ news) → w.grownBy w' v.ownBlock → wpList P ops Q rest (a.put o.dst v') w') : wpList P ops Q (o :: rest) a w := by
  cases A with
  | none =>
    have h0 : m = 0 := by
      rcases Nat.eq_zero_or_pos m with h0 | h0
      · exact h0
      · obtain ⟨g, o, e, _⟩ := hrow.2 h0; simp at e
    subst h0
    have hc := hnil rfl
    subst hc
    have hn := List.eq_nil_of_length_eq_zero hrow.1
    subst hn
    refine wpList_append_own_none hgd s x t ho base e i 1 ht hi v n xs hs hown hx ?_
    exact h v w (by simpa using hown) (World.grownBy.refl _ _)
  | some ad =>
    refine wpList_append_own w hgd s x t ho base e i z 1 bytes ht hi hz hsize hby hzs (by decide) v n xs hs hown ad m c news hx (by have := hrow.1; omega) ?_ h1 h63 hbytes hbase (fun v' w' a1 a2 _ => h v' w' a1 a2)
    intro j u hj
    have hjl : j < m := by have h2 := (List.getElem?_eq_some_iff.mp hj).1; have := hrow.1; omega
    obtain ⟨g, o, e, hlt, hc⟩ := hrow.2 (by omega)
    obtain rfl : ad = ⟨g, o, none⟩ := by simpa using e
    rw [add_off, hc j hjl]
    exact hj
/-- What NatDiv answers. -/
def quoN (xs ys : List Int) : List Nat := if okI xs = true ∧ okI ys = true then dig (val (toN xs) / val (toN ys)) else []
def remN (xs ys : List Int) : List Nat := if okI xs = true ∧ okI ys = true ∧ val (toN ys) ≠ 0 then dig (val (toN xs) % val (toN ys)) else []
theorem divN_no {xs ys : List Int} (h : okI xs = false ∨ okI ys = false) : quoN xs ys = [] ∧ remN xs ys = [] := by
  constructor
  · rw [quoN, if_neg (by rintro ⟨h1, h2⟩; rcases h with h | h <;> simp_all)]
  · rw [remN, if_neg (by rintro ⟨h1, h2, _⟩; rcases h with h | h <;> simp_all)]
theorem divN_yes {xs ys : List Int} (h1 : okI xs = true) (h2 : okI ys = true) : quoN xs ys = dig (val (toN xs) / val (toN ys)) ∧ remN xs ys = if val (toN ys) ≠ 0 then dig (val (toN xs) % val (toN ys)) else [] := by
  constructor
  · rw [quoN, if_pos ⟨h1, h2⟩]
  · simp [remN, h1, h2]
theorem quoN_len (xs ys : List Int) : (quoN xs ys).length ≤ 60 := by
  unfold quoN
  split
  · rename_i h
    obtain ⟨_, h1, h2⟩ := okI_nats h.1
    refine dig_len (Nat.lt_of_le_of_lt (Nat.div_le_self _ _) (Nat.lt_of_lt_of_le (val_lt h1.1) (Nat.pow_le_pow_right (by decide) h2)))
  · simp
theorem remN_len (xs ys : List Int) : (remN xs ys).length ≤ 60 := by
  unfold remN
  split
  · rename_i h
    obtain ⟨_, h1, h2⟩ := okI_nats h.1
    refine dig_len (Nat.lt_of_le_of_lt (Nat.mod_le _ _) (Nat.lt_of_lt_of_le (val_lt h1.1) (Nat.pow_le_pow_right (by decide) h2)))
  · simp
/-- What a function leaves that returns two rows in new memory. -/
def OwnR2 (e : TypeId) (xs ys : List Value) (w : World) (en : Ending) (w' : World) : Prop :=
  ∃ v0 v1, en = .returned (.tuple #[v0, v1]) ∧ OwnV w' w.heap.size e v0 xs ∧ OwnV w' w.heap.size e v1 ys ∧ (v0.ownBlock = none ∨ v0.ownBlock ≠ v1.ownBlock) ∧ (v1.ownBlock = none ∨ v1.ownBlock ≠ v0.ownBlock) ∧ Below w.heap.size w w'
theorem own2_nil (e : TypeId) (w w' : World) (h : Below w.heap.size w w') : OwnR2 e [] [] w (.returned (.tuple #[.slice none 0 0, .slice none 0 0])) w' :=
  ⟨_, _, rfl, OwnV.nil _ _ _, OwnV.nil _ _ _, .inl rfl, .inl rfl, h⟩
theorem qrow_zero (n : Nat) (QS : List Nat) (i : Nat) (h : i < n) : qrow (List.replicate n 0) (0 :: QS) i = qrow (List.replicate n 0) QS (i + 1) := by
  unfold qrow
  rw [List.take_replicate, List.take_replicate, Nat.min_eq_left (by omega), Nat.min_eq_left (by omega), List.replicate_succ' (n := i), List.drop_replicate, List.drop_replicate, List.append_assoc]
  have e : n - (i + (0 :: QS).length) = n - (i + 1 + QS.length) := by simp; omega
  rw [e]
  rfl
theorem OwnV.ne_of_lt {w : World} {base g : Nat} {e : TypeId} {v : Value} {xs : List Value} (h : OwnV w base e v xs) (hg : g < base) : v.ownBlock = none ∨ v.ownBlock ≠ some g := by
  cases hv : v.ownBlock with
  | none => exact .inl rfl
  | some k =>
    refine .inr fun e => ?_
    have := (h.lt k hv).1
    have e2 : k = g := Option.some.inj e
    omega
theorem qrow_all (n : Nat) (QS : List Nat) (h : QS.length ≤ n) : Digs QS → Digs (qrow (List.replicate n 0) QS 0) ∧ val (qrow (List.replicate n 0) QS 0) = val QS ∧ (qrow (List.replicate n 0) QS 0).length = n := by
  intro hd
  unfold qrow
  rw [List.take_zero, List.nil_append, List.drop_replicate, Nat.zero_add]
  exact ⟨digs_pad hd _, val_pad _ _, by simp; omega⟩
set_option maxRecDepth 100000 in
set_option maxHeartbeats 4000000 in
theorem l02Div_any (A B : Option Addr) (n c m d : Nat) (ds bs : List Nat) (w : World) (hA : VRow w A n (nats ds)) (hB : VRow w B m (nats bs)) (hds : Digs ds) (hbs : Canon bs) (hm0 : 0 < m) (hn : n ≤ 500000) (hm : m ≤ 500000) :
    Calls Try.prog 66 #[.slice A n c, .slice B m d] w (OwnR2 3 (nats (dig (val ds / val bs))) (nats (dig (val ds % val bs))) w) := by
  obtain ⟨i0, hi, hz0, hz1, hz2⟩ := info_parts info_int
  have HL := Lib.hid (show ds.length = n by simpa [nats_len] using hA.1)
  have HM := Lib.hid (show bs.length = m by simpa [nats_len] using hB.1)
  have hV : 0 < val bs := by
    have := can_pos hbs (by have := HM.out; omega)
    have := pow_pos (bs.length - 1)
    omega
  have HV := Lib.hid hV
  have HA := Lib.hid hA
  have HB := Lib.hid hB
  have HD := Lib.hid hds
  have HS := Lib.hid hbs
  clear hA hB hds hbs hV
  by_cases h1 : m = 1
  · subst h1
    obtain ⟨b0, rfl⟩ : ∃ b0, bs = [b0] := List.length_eq_one_iff.mp HM.out
    have hb0 := canon_top HS.out 0 rfl
    have hb0b := HS.out.1 b0 (by simp)
    simp only [List.getElem_cons_zero] at hb0
    have e2 : val [b0] = b0 := by simp [val]
    obtain ⟨gb, ob, rfl, hgb, hcb⟩ := HB.out.at_ (show 0 < 1 by omega)
    have hcb' : w.cell? ⟨gb, ob, none⟩ = some (.int .i64 (b0 : Int)) := hcb
    clear hcb
    rw [e2]
    go_enter Try.func66, Try.ntmps66
    go_wp2_with fail
    refine (l02Small_any _ _ _ ds b0 _ HA.out HD.out hb0 hb0b (by omega)).mono ?_
    rintro e w1 ⟨v1, rfl, ho1, hb1⟩
    have HO1 := Lib.hid ho1
    have HB1 := Lib.hid hb1
    have hrb : val ds % b0 < b0 := Nat.mod_lt _ hb0
    obtain ⟨r, hr⟩ : ∃ r, val ds % b0 = r := ⟨_, rfl⟩
    rw [hr] at hrb ⊢
    have HRR := Lib.hid hr
    clear ho1 hb1 e2 hr
    go_wp2_with fail
    refine (natOf_spec (r : Int) _ (by omega)).mono ?_
    rintro e w2 ⟨v2, rfl, ho2, hb2⟩
    rw [Int.toNat_natCast] at ho2
    have HO2 := Lib.hid ho2
    have HO1' := Lib.hid (HO1.out.below hb2)
    have HAP := Lib.hid (OwnV.apart HO1.out ho2 (Nat.le_refl _))
    have HAP2 := Lib.hid (OwnV.apart' ho2 HO1.out (Nat.le_refl _))
    have HB2 := Lib.hid (HB1.out.trans (hb2.mono HB1.out.size))
    clear ho2 hb2
    go_wp2
    go_ret2
    refine ⟨v1, v2, rfl, HO1'.out, ?_, HAP.out, HAP2.out, HB2.out⟩
    rw [HRR.out]
    exact HO2.out.based HB1.out.size
  · have h1b : ((m : Int) == 1) = false := beq_eq_false_iff_ne.mpr (by omega)
    go_enter Try.func66, Try.ntmps66
    go_wp2_with (at_make; refine wpList_make_full _ rfl _ _ _ rfl w.heap.size 3 i0 _ 1 Try.underlying22 hi hz0 hz1 .i64 .i64 _ _ n rfl rfl rfl rfl (by rw [hz2]; omega) (by unfold maxLen; omega) (Nat.le_refl _) ?_; intro w1 hown hgrow)
    have HB1 := Lib.hid ((Below.refl w.heap.size w).grown hgrow (Nat.le_refl _) (by simp))
    have HW1 := Lib.hid (made_whole hown)
    have HSZ := Lib.hid (made_whole hown).lt.2
    clear hown hgrow
    go_wp2
    go_loopw [9, 10] (fun v i wr => ∃ (k : Nat) (QS : List Nat), k ≤ n ∧ i = .int .i64 ((k : Int) - 1) ∧ val QS = val (ds.drop k) / val bs ∧ Digs QS ∧ QS.length + k = n ∧ Whole wr w.heap.size w.heap.size 3 (nats (qrow (List.replicate n 0) QS k)) ∧ OwnV wr (w.heap.size + 1) 3 v (nats (dig (val (ds.drop k) % val bs))) ∧ Below w.heap.size w wr) (fun _ i _ => (intOf i + 1).toNat)
    case atStart =>
      refine ⟨n, [], Nat.le_refl _, by go_num, ?_, Digs.nil, by simp, ?_, ?_, HB1.out.alloc HB1.out.size _⟩
      · rw [List.drop_of_length_le (by have := HL.out; omega)]; simp [val]
      · rw [qrow_nil]; exact World.ownsRow.alloc HW1.out _
      · rw [List.drop_of_length_le (by have := HL.out; omega)]
        simp only [val, Nat.zero_mod, dig_zero]
        exact OwnV.of_own (World.ownsRow_made w1 #[] 0 (by have := HSZ.out; omega) (Nat.zero_le _) rfl)
    case round =>
      obtain ⟨k, QS, hk, rfl, hqv, hqd, hql, hw, ho, hb⟩ := hrel
      have HQV := Lib.hid hqv
      have HQD := Lib.hid hqd
      have HW := Lib.hid hw
      have HO := Lib.hid ho
      have HBr := Lib.hid hb
      have HSZ2 := Lib.hid hw.lt.2
      clear hqv hqd hw ho hb
      by_cases h0 : k = 0
      · subst h0
        obtain ⟨hq1, hq2, hq3⟩ := qrow_all n QS (by omega) HQD.out
        have hov := OwnV.of_whole HW.out
        rw [nats_len, hq3] at hov
        have HOV := Lib.hid hov
        have HQ1 := Lib.hid hq1
        have HQ2 := Lib.hid hq2
        clear hov hq1 hq2 hq3
        go_wp2_with fail
        refine (l02Trim_own _ _ _ _ _ _ HOV.out HQ1.out).mono ?_
        rintro e w2 ⟨rfl, hov, rfl⟩
        rw [HQ2.out, HQV.out, List.drop_zero] at hov ⊢
        have HOV2 := Lib.hid hov
        clear hov
        have hor := HO.out
        rw [List.drop_zero] at hor
        have HOR := Lib.hid hor
        clear hor
        go_wp2
        go_ret2
        refine ⟨.slice (some ⟨w.heap.size, 0, none⟩) (dig (val ds / val bs)).length n, u9, rfl, HOV2.out, HOR.out.based (Nat.le_succ _), ?_, ?_, HBr.out⟩
        · refine .inr fun e => ?_
          have h2 := (HOR.out.lt w.heap.size e.symm).1
          omega
        · cases hu : u9.ownBlock with
          | none => exact .inl rfl
          | some g =>
            refine .inr fun e => ?_
            have := (HOR.out.lt g hu).1
            have e2 : some g = some w.heap.size := e
            simp at e2
            omega
      · obtain ⟨i, rfl⟩ : ∃ i, k = i + 1 := ⟨k - 1, by omega⟩
        have hwi : ((i + 1 : Nat) : Int) - 1 = (i : Int) := by omega
        rw [hwi]
        clear hwi
        obtain ⟨ga, oa, rfl, hga, hca⟩ := (HA.out.below HBr.out (Nat.le_refl _)).at_ (show i < n by omega)
        rw [nats_get] at hca
        have hxl : i < ds.length := by have := HL.out; omega
        obtain ⟨x, hx⟩ : ∃ x, ds[i] = x := ⟨_, rfl⟩
        have hxb : x < 1000000000 := hx ▸ HD.out.get hxl
        have hvd := val_drop_succ ds i hxl
        rw [hx] at hca hvd
        have HVD := Lib.hid hvd
        clear hx hvd
        -- the rest of the rounds before
        obtain ⟨r, hr⟩ : ∃ r, val (ds.drop (i + 1)) % val bs = r := ⟨_, rfl⟩
        have hrV : r < val bs := by rw [← hr]; exact Nat.mod_lt _ HV.out
        have HRV := Lib.hid hrV
        have hEQ : val (ds.drop (i + 1)) = val bs * val QS + r := by rw [HQV.out, ← hr]; exact (Nat.div_add_mod _ _).symm
        have HEQ := Lib.hid hEQ
        rw [hr] at HO
        clear hr hrV hEQ
        obtain ⟨A9, c9, hu9⟩ := HO.out.shape
        have hl9 : (nats (dig r)).length ≤ m := by
          rw [nats_len]
          have := can_len_le (dig_can r) (k := m) (by rw [val_dig]; have h2 := val_lt HS.out.1; rw [HM.out] at h2; exact Nat.lt_trans HRV.out h2)
          exact this
        obtain ⟨n9, hn9⟩ : ∃ n9, (nats (dig r)).length = n9 := ⟨_, rfl⟩
        rw [hn9] at hu9 hl9
        subst hu9
        have hlit : (wr.alloc (.cells #[.int .i64 (x : Int)] 3)).ownsRow (w.heap.size + 1) 3 1 (.slice (some ⟨wr.heap.size, 0, none⟩) 1 1) 1 [.int .i64 (x : Int)] :=
          World.ownsRow_lit wr #[.int .i64 (x : Int)] 1 (by have := HSZ2.out; omega) (by unfold maxLen; omega) rfl
        have HLIT := Lib.hid hlit
        have HR9 := Lib.hid ((HO.out.row).below ((Below.refl _ _).alloc (Nat.le_refl _) (.cells #[.int .i64 (x : Int)] 3)) (Nat.le_refl _))
        have HN9 := Lib.hid HO.out.nil_cap
        have HOC := Lib.hid (nats_oneCell (dig r))
        clear hlit
        have hin : i < n := by omega
        have hinz : (i : Int) < (n : Int) := by omega
        go_wp2_with (at_builtin; refine wpList_append_row rfl (.tmp 41) (.tmp 42) 22 rfl (w.heap.size + 1) 3 i0 _ 8 Try.underlying22 hi hz0 hz1 hz2 rfl _ 1 [.int .i64 (x : Int)] rfl HLIT.out A9 n9 c9 (nats (dig r)) rfl HR9.out HN9.out HOC.out (by unfold maxLen; omega) (by omega) (by have := HSZ2.out; simp; omega) ?_; intro v3 w3 hown3 hgrow3)
        have e3 : [.int .i64 (x : Int)] ++ nats (dig r) = nats (x :: dig r) := rfl
        rw [e3] at hown3
        obtain ⟨A3, c3, rfl⟩ := own_shape hown3
        have HO3 := Lib.hid (OwnV.of_own hown3)
        have HB3 := Lib.hid ((HBr.out.alloc HBr.out.size _).grown hgrow3 (by have := HBr.out.size; simp; omega) (fun k hk => by have e9 : wr.heap.size = k := Option.some.inj hk; have := HBr.out.size; omega))
        have hWal : Whole (wr.alloc (.cells #[.int .i64 (x : Int)] 3)) w.heap.size w.heap.size 3 (nats (qrow (List.replicate n 0) QS (i + 1))) := World.ownsRow.alloc HW.out _
        have HW3 := Lib.hid (hWal.kept hgrow3 (fun e => by have e9 : w.heap.size = wr.heap.size := Option.some.inj e; have := HSZ2.out; omega))
        clear hown3 hgrow3 e3 hWal
        have HXD := Lib.hid (show Digs (x :: dig r) from fun y hy => by
          rcases List.mem_cons.mp hy with rfl | hy
          · exact hxb
          · exact dig_digs r y hy)
        go_wp2_with fail
        refine (l02Trim_own _ _ _ _ _ _ HO3.out HXD.out).mono ?_
        rintro e w4 ⟨rfl, ho4, rfl⟩
        have e4 : val (x :: dig r) = x + 1000000000 * r := by rw [val, val_dig]
        rw [e4] at ho4 ⊢
        obtain ⟨U, hU⟩ : ∃ U, x + 1000000000 * r = U := ⟨_, rfl⟩
        have HUV := Lib.hid (show U < 1000000000 * val bs by have := HRV.out; omega)
        have hst := small_step x (val bs) _ _ r HV.out HEQ.out
        rw [← HVD.out, show r * 1000000000 + x = U by omega] at hst
        have HST := Lib.hid hst
        rw [hU] at ho4 ⊢
        have HO4 := Lib.hid ho4
        clear ho4 e4 hst hU HO3 HO HR9
        have hl4 : (dig U).length ≤ m + 1 := by
          refine dig_len (Nat.lt_trans HUV.out ?_)
          have h2 := val_lt HS.out.1
          rw [HM.out] at h2
          rw [Nat.pow_succ]
          omega
        obtain ⟨n4, hn4⟩ : ∃ n4, (dig U).length = n4 := ⟨_, rfl⟩
        rw [hn4] at HO4 hl4 ⊢
        have HN4 := Lib.hid hn4
        clear hn4
        have HBB4 := Lib.hid (HB.out.below HB3.out (Nat.le_refl _))
        go_wp2_with fail
        refine (l02Cmp_any _ _ _ _ _ _ (dig U) bs _ HO4.out.row HBB4.out (dig_can U) HS.out (by unfold maxLen; omega) (by unfold maxLen; omega)).mono ?_
        rintro e w5 ⟨rfl, hb5⟩
        rw [val_dig]
        have HB5 := Lib.hid (HB3.out.trans (hb5.mono HB3.out.size))
        have HO5 := Lib.hid (HO4.out.below hb5)
        have HW5 := Lib.hid (HW3.out.below hb5)
        clear hb5
        have hzl : i < (qrow (List.replicate n 0) QS (i + 1)).length := by rw [qrow_len _ _ _ (by simp; omega)]; simp; omega
        by_cases hlt : U < val bs
        · rw [sgn_lt hlt]
          have hq0 : U / val bs = 0 := Nat.div_eq_of_lt hlt
          have hr0 : U % val bs = U := Nat.mod_eq_of_lt hlt
          have HST2 := Lib.hid HST.out
          rw [hq0, hr0, Nat.zero_add] at HST2
          clear hq0 hr0 hlt
          go_wp2
          refine ⟨⟨i, 0 :: QS, by omega, by go_num, ?_, ?_, by simp; omega, ?_, ?_, HB5.out⟩, by simp [intOf]⟩
          · rw [HST2.out.1]; simp [val]
          · intro y hy
            rcases List.mem_cons.mp hy with rfl | hy
            · omega
            · exact HQD.out y hy
          · have e6 := qrow_zero n QS i (by omega)
            rw [e6]
            exact HW5.out
          · rw [HST2.out.2]; exact HO5.out
        · have hs : ¬ sgn U (val bs) < 0 := by
            by_cases h2 : U = val bs
            · rw [sgn_eq h2]; decide
            · rw [sgn_gt (by omega)]; decide
          generalize sgn U (val bs) = sg at *
          have HGE := Lib.hid (show val bs ≤ U by omega)
          clear hlt
          go_wp2_with fail
          refine (l02Digit_any _ _ _ _ _ _ (dig U) bs _ HO5.out.row (HB.out.below HB5.out (Nat.le_refl _)) (dig_can U) HS.out HV.out (by rw [val_dig]; exact HUV.out) (by omega) (by omega)).mono ?_
          rintro e w6 ⟨rfl, hb6⟩
          rw [val_dig]
          have HB6 := Lib.hid (HB5.out.trans (hb6.mono HB5.out.size))
          have HO6 := Lib.hid (HO5.out.below hb6)
          have HW6 := Lib.hid (HW5.out.below hb6)
          clear hb6 HO5 HW5 HO4 HW3
          have hqb : U / val bs < 1000000000 := by rw [Nat.div_lt_iff_lt_mul HV.out]; exact HUV.out
          have hmod : U - val bs * (U / val bs) = U % val bs := by have := Nat.div_add_mod U (val bs); omega
          have hmle : val bs * (U / val bs) ≤ U := Nat.mul_div_le U (val bs)
          obtain ⟨q, hq⟩ : ∃ q, U / val bs = q := ⟨_, rfl⟩
          rw [hq] at HST hqb hmod hmle ⊢
          have HMOD := Lib.hid hmod
          have HMLE := Lib.hid hmle
          clear hq hmod hmle
          have hcq : w6.cell? ⟨w.heap.size, i, none⟩ = some (.int .i64 (((qrow (List.replicate n 0) QS (i + 1))[i]'hzl : Nat) : Int)) := by
            rw [HW6.out.cell i (by rw [nats_len]; exact hzl), nats_get]
          have hfz := HW6.out.frozen i
          have hzq := HW6.out.set i (.int .i64 (q : Int))
          rw [nats_set, qrow_set _ _ _ _ (by simp; omega)] at hzq
          have HW7 := Lib.hid hzq
          have HSG := Lib.hid (HW6.out.setGrown i (.int .i64 (q : Int)))
          have HO7 := Lib.hid (HO6.out.kept HSG.out (HO6.out.ne_of_lt (Nat.lt_succ_self _)))
          have HB7 := Lib.hid (HB6.out.grown HSG.out HB6.out.size (fun k hk => by have e9 : w.heap.size = k := Option.some.inj hk; omega))
          obtain ⟨zz, hzz⟩ : ∃ zz, (qrow (List.replicate n 0) QS (i + 1))[i]'hzl = zz := ⟨_, rfl⟩
          rw [hzz] at hcq
          clear hzz hzl hzq HO6 HW6
          go_wp2_with fail
          refine (natOf_spec (q : Int) _ (by omega)).mono ?_
          rintro e w8 ⟨v8, rfl, ho8, hb8⟩
          rw [Int.toNat_natCast] at ho8
          obtain ⟨A8, c8, rfl⟩ := ho8.shape
          have hl8 : (nats (dig q)).length ≤ 4 := by rw [nats_len]; exact dig_len (by omega)
          obtain ⟨n8, hn8⟩ : ∃ n8, (nats (dig q)).length = n8 := ⟨_, rfl⟩
          rw [hn8] at hl8 ho8 ⊢
          have HO8 := Lib.hid ho8
          have HB8 := Lib.hid (HB7.out.trans (hb8.mono HB7.out.size))
          have HW8 := Lib.hid (HW7.out.below hb8)
          have HR8 := Lib.hid (HO7.out.below hb8)
          clear ho8 hb8 hn8 HW7 HO7
          go_wp2_with fail
          refine (l02Mul_any _ _ _ _ _ _ bs (dig q) _ (HB.out.below HB8.out (Nat.le_refl _)) HO8.out.row HS.out.1 (dig_digs _) (by omega)).mono ?_
          rintro e w10 ⟨v10, rfl, ho10, hb10⟩
          rw [val_dig] at ho10
          obtain ⟨A10, c10, rfl⟩ := ho10.shape
          have hl10 : (nats (dig (val bs * q))).length ≤ n4 := by
            rw [nats_len, ← HN4.out]
            exact canon_len (dig_can _) (dig_digs _) (by rw [val_dig, val_dig]; exact HMLE.out)
          obtain ⟨n10, hn10⟩ : ∃ n10, (nats (dig (val bs * q))).length = n10 := ⟨_, rfl⟩
          rw [hn10] at hl10 ho10 ⊢
          have HO10 := Lib.hid ho10
          have HB10 := Lib.hid (HB8.out.trans (hb10.mono HB8.out.size))
          have HW10 := Lib.hid (HW8.out.below hb10)
          have HR10 := Lib.hid (HR8.out.below hb10)
          clear ho10 hb10 hn10 HW8 HR8 HO8
          go_wp2_with fail
          refine (l02Sub_any _ _ _ _ _ _ (dig U) (dig (val bs * q)) _ HR10.out.row HO10.out.row (dig_digs _) (dig_digs _) hl10 (by rw [val_dig, val_dig]; exact HMLE.out) (by omega)).mono ?_
          rintro e w11 ⟨v11, rfl, ho11, hb11⟩
          rw [val_dig, val_dig, HMOD.out] at ho11
          have HSZ10 := Lib.hid HW10.out.lt.2
          have HO11 := Lib.hid (ho11.based (show w.heap.size + 1 ≤ w10.heap.size by have := HSZ10.out; omega))
          have HB11 := Lib.hid (HB10.out.trans (hb11.mono HB10.out.size))
          have HW11 := Lib.hid (HW10.out.below hb11)
          clear ho11 hb11
          go_wp2
          refine ⟨⟨i, q :: QS, by omega, by go_num, ?_, ?_, by simp; omega, HW11.out, ?_, HB11.out⟩, by simp [intOf]⟩
          · rw [HST.out.1]; rfl
          · intro y hy
            rcases List.mem_cons.mp hy with rfl | hy
            · exact hqb
            · exact HQD.out y hy
          · rw [HST.out.2]; exact HO11.out
set_option maxRecDepth 100000 in
set_option maxHeartbeats 2000000 in
theorem natDiv_impl (A B : Option Addr) (n c m d : Nat) (xs ys : List Int) (w : World) (hA : VRow w A n (ints xs)) (hB : VRow w B m (ints ys)) (hn : n ≤ maxLen) (hm : m ≤ maxLen) :
    Calls Try.prog 103 #[.slice A n c, .slice B m d] w (OwnR2 3 (nats (quoN xs ys)) (nats (remN xs ys)) w) := by
  have HA := Lib.hid hA
  have HB := Lib.hid hB
  clear hA hB
  cases hx : okI xs with
  | false =>
    have HEQ := Lib.hid (divN_no (xs := xs) (ys := ys) (.inl hx))
    go_enter Try.func103, Try.ntmps103
    go_wp2_with fail
    refine (natOk_impl _ _ _ xs _ HA.out hn).mono ?_
    rintro e w1 ⟨rfl, hb⟩
    rw [hx]
    have HB1 := Lib.hid hb
    clear hb
    go_wp2
    go_ret2
    rw [HEQ.out.1, HEQ.out.2]
    exact own2_nil _ _ _ HB1.out
  | true =>
    obtain ⟨hxn, hxc, hxl⟩ := okI_nats hx
    go_enter Try.func103, Try.ntmps103
    go_wp2_with fail
    refine (natOk_impl _ _ _ xs _ HA.out hn).mono ?_
    rintro e w1 ⟨rfl, hb⟩
    rw [hx]
    have HB1 := Lib.hid hb
    clear hb
    go_wp2_with fail
    refine (natOk_impl _ _ _ ys _ (HB.out.below HB1.out (Nat.le_refl _)) hm).mono ?_
    rintro e w2 ⟨rfl, hb⟩
    have HB2 := Lib.hid (HB1.out.trans (hb.mono HB1.out.size))
    clear hb
    cases hy : okI ys with
    | false =>
      have HEQ := Lib.hid (divN_no (xs := xs) (ys := ys) (.inr hy))
      go_wp2
      go_ret2
      rw [HEQ.out.1, HEQ.out.2]
      exact own2_nil _ _ _ HB2.out
    | true =>
      obtain ⟨hyn, hyc, hyl⟩ := okI_nats hy
      have hA2 := HA.out.below HB2.out (Nat.le_refl _)
      have hBB2 := HB.out.below HB2.out (Nat.le_refl _)
      rw [hxn] at hA2
      rw [hyn] at hBB2
      have HEQ := Lib.hid (divN_yes hx hy)
      clear hxn hyn hx hy HA HB HB1
      generalize toN xs = ds at *
      generalize toN ys = es at *
      have HL := Lib.hid (show ds.length = n by simpa [nats_len] using hA2.1)
      have HM := Lib.hid (show es.length = m by simpa [nats_len] using hBB2.1)
      have hn60 : n ≤ 60 := by have := HL.out; omega
      have hm60 : m ≤ 60 := by have := HM.out; omega
      have HX := Lib.hid hxc
      have HY := Lib.hid hyc
      have HA2 := Lib.hid hA2
      have HBB2 := Lib.hid hBB2
      clear hxc hyc hA2 hBB2 hn hm hxl hyl
      by_cases hm0 : m = 0
      · subst hm0
        have HE0 := Lib.hid (show val es = 0 by rw [List.eq_nil_of_length_eq_zero HM.out]; rfl)
        go_wp2
        go_ret2
        rw [HEQ.out.1, HEQ.out.2, HE0.out, Nat.div_zero, dig_zero]
        exact own2_nil _ _ _ HB2.out
      have hm0b : ((m : Int) == 0) = false := beq_eq_false_iff_ne.mpr (by omega)
      have hV : val es ≠ 0 := by
        intro h
        have := (can_zero_iff HY.out).mp h
        have h2 := HM.out
        rw [this] at h2
        simp at h2
        omega
      have HR := Lib.hid (show remN xs ys = dig (val ds % val es) by rw [HEQ.out.2, if_pos hV])
      have HQ := Lib.hid HEQ.out.1
      clear hV
      obtain ⟨i0, hi, hz0, hz1, hz2⟩ := info_parts info_int
      go_wp2_with (at_make; refine wpList_make_full _ rfl _ _ _ rfl w2.heap.size 3 i0 _ 1 Try.underlying22 hi hz0 hz1 .i64 .i64 _ _ n rfl rfl rfl rfl (by rw [hz2]; omega) (by unfold maxLen; omega) (Nat.le_refl _) ?_; intro w3 hown hgrow)
      have hb3 := (Below.refl w2.heap.size w2).grown hgrow (Nat.le_refl _) (by simp)
      have HW3 := Lib.hid (made_whole hown)
      have HSZ3 := Lib.hid (made_whole hown).lt.2
      have HA3 := Lib.hid (HA2.out.below hb3 (Nat.le_refl _))
      have HBB3 := Lib.hid (HBB2.out.below hb3 (Nat.le_refl _))
      have HB3 := Lib.hid (HB2.out.trans (hb3.mono HB2.out.size))
      have HBL := Lib.hid (HBB2.out.off (Nat.le_refl _))
      clear hown hgrow hb3
      go_wp2_with fail
      refine (rowOf_any _ n c n _ (by first | rfl | omega) ds _ HA3.out (Nat.le_refl _) (by omega)).mono ?_
      rintro e w4 ⟨rfl, hw4, hb4⟩
      rw [Nat.sub_self, List.replicate_zero, List.append_nil] at hw4
      have HW4 := Lib.hid (hw4.based (Nat.le_of_lt HSZ3.out))
      have HZ4 := Lib.hid (HW3.out.below hb4)
      have HBB4 := Lib.hid (HBB3.out.below hb4 (Nat.le_refl _))
      have HBR := Lib.hid (show ∀ a : Addr, B = some a → a.block ≠ w3.heap.size ∧ a.block ≠ w2.heap.size from fun a ha => ⟨HBB3.out.off (Nat.le_refl _) (by omega) a ha, HBL.out (by omega) a ha⟩)
      have HB4 := Lib.hid (HB3.out.trans (hb4.mono HB3.out.size))
      clear hw4 hb4
      go_wp2_with fail
      refine (reduceRow_any w3.heap.size w2.heap.size n n n n m d w2.heap.size ds (List.replicate n 0) es B _ HW4.out HZ4.out HBB4.out HBR.out (by have := HSZ3.out; omega) HX.out.1 (by rw [List.take_of_length_le (by rw [HL.out]; exact Nat.le_refl _)]; exact HX.out) HY.out (Nat.le_refl _) (by rw [HL.out]; exact Nat.le_refl _) (by omega) (Nat.le_refl _) (by simp) (by rw [HL.out]; omega) (by omega)).mono ?_
      rintro e w5 ⟨r, rc, R, QS, rfl, hr1, hr2, hr3, hr4, hr5, hr6, hr7, hz5, hq1, hq2, hq3, hlv⟩
      have htk : ds.take n = ds := List.take_of_length_le (by rw [HL.out]; exact Nat.le_refl _)
      rw [htk] at hr1 hr6 hq3
      have hrow : OwnV w5 w2.heap.size 3 (.slice (some ⟨w3.heap.size, 0, none⟩) r rc) (nats (dig (val ds % val es))) := by
        have h := (OwnV.of_whole hr7).cut (m := r) (c2 := rc) (by rw [nats_len]; omega) hr2 (by rw [nats_len]; exact hr3)
        rw [nats_take, hr6] at h
        exact h
      have hqq := qrow_all n QS hq1 hq2
      have HO1 := Lib.hid hrow
      have HZ5 := Lib.hid hz5
      have HQQ := Lib.hid hqq
      have HQV := Lib.hid hq3
      have HB5 := Lib.hid (hlv.below HB4.out HB4.out.size (Nat.le_trans HB3.out.size (Nat.le_refl _)) HB2.out.size)
      clear hr1 hr2 hr3 hr4 hr5 hr6 hr7 hz5 hq1 hq2 hq3 hlv hrow hqq
      go_wp2_with fail
      refine (natOrNil_any _ n _ _ HQQ.out.2.2 _ HZ5.out HQQ.out.1 (by omega)).mono ?_
      rintro e w6 ⟨⟨v6, rfl, ho6, hblk⟩, rfl⟩
      have hlt : val ds / val es < 1000000000 ^ 60 := Nat.lt_of_le_of_lt (Nat.div_le_self _ _) (Nat.lt_of_lt_of_le (val_lt HX.out.1) (Nat.pow_le_pow_right (by decide) (by rw [HL.out]; omega)))
      rw [HQQ.out.2.1, HQV.out, capd_of hlt] at ho6
      have HO6 := Lib.hid ho6
      have HBK := Lib.hid hblk
      clear ho6 hblk hlt
      go_wp2
      go_ret2
      refine ⟨v6, .slice (some ⟨w3.heap.size, 0, none⟩) r rc, rfl, ?_, ?_, ?_, ?_, HB5.out⟩
      · rw [HQ.out]; exact HO6.out.based HB2.out.size
      · rw [HR.out]; exact HO1.out.based HB2.out.size
      · rcases HBK.out with h | h
        · exact .inl h
        · refine .inr fun e => ?_
          rw [h] at e
          have e9 : w2.heap.size = w3.heap.size := Option.some.inj e
          have := HSZ3.out
          omega
      · refine .inr fun e => ?_
        rcases HBK.out with h | h
        · rw [h] at e; simp [Value.ownBlock] at e
        · rw [h] at e
          have e9 : w3.heap.size = w2.heap.size := Option.some.inj e
          have := HSZ3.out
          omega
end Go.Proofs.Ytdilbhkdkppodaa
