/- Contracts of NatDiv, of the model (with l02Div) and of the program. Conditions: none. -/
import Derived.Test.YtfhndfcncedieaaDoorProg
import Derived.Test.YtfhndfcncedieaaDoorDivSpec1
namespace Go.Proofs.YtfhndfcncedieaaDoor
open Go.RowKit Nt
set_option linter.unusedVariables false

/-- 'append' of whatever slice reads as news to a row of one's own. -/
theorem wpList_append_row {P : Program} {w : World} {ops : Array Oper} {rest : List Oper} {o : Oper} {a : Act} {Q : Exit → Act → World → Prop} (hgd : o.guard = none) (s x : Operand) (t : TypeId)
    (ho : o.op = .call { callee := .builtin .append, args := #[s, x], argTypes := #[t, t] })
    (base : Nat) (e : TypeId) (i : TypeInfo) (z : Value) (bytes : Nat) (ht : P.underlying t = some (.slice e)) (hi : P.info? e = some i) (hz : i.zero = some z)
    (hsize : i.size = 1) (hby : i.bytes = bytes) (hzs : z.cells.size = 1)
    (v : Value) (n : Nat) (xs : List Value) (hs : a.eval s = v) (hown : w.ownsRow base e 1 v n xs)
    (A : Option Addr) (m c : Nat) (news : List Value) (hx : a.eval x = .slice A m c) (hrow : VRow w A m news) (hnil : A = none → c = 0) (h1 : ∀ u ∈ news, u.oneCell' = true)
    (h63 : n + m ≤ maxLen) (hbytes : (n + m) * bytes ≤ 140737488355328) (hbase : base ≤ w.heap.size)
    (h : ∀ v' w', w'.ownsRow base e 1 v' (n + m) (xs ++ news) → w.grownBy w' v.ownBlock → wpList P ops Q rest (a.put o.dst v') w') : wpList P ops Q (o :: rest) a w := by
  cases A with
  | none =>
    have h0 : m = 0 := by
      rcases Nat.eq_zero_or_pos m with h0 | h0
      · exact h0
      · obtain ⟨g, o, e, _⟩ := hrow.2 h0; simp at e
    subst h0
    have hc := hnil rfl
    subst hc
    have hn := List.eq_nil_of_length_eq_zero hrow.1
    subst hn
    refine wpList_append_own_none hgd s x t ho base e i 1 ht hi v n xs hs hown hx ?_
    exact h v w (by simpa using hown) (World.grownBy.refl _ _)
  | some ad =>
    refine wpList_append_own w hgd s x t ho base e i z 1 bytes ht hi hz hsize hby hzs (by decide) v n xs hs hown ad m c news hx (by have := hrow.1; omega) ?_ h1 h63 hbytes hbase (fun v' w' a1 a2 _ => h v' w' a1 a2)
    intro j u hj
    have hjl : j < m := by have h2 := (List.getElem?_eq_some_iff.mp hj).1; have := hrow.1; omega
    obtain ⟨g, o, e, hlt, hc⟩ := hrow.2 (by omega)
    obtain rfl : ad = ⟨g, o, none⟩ := by simpa using e
    rw [add_off, hc j hjl]
    exact hj
/-- What NatDiv answers. -/
def quoN (xs ys : List Int) : List Nat := if okI xs = true ∧ okI ys = true then dig (val (toN xs) / val (toN ys)) else []
def remN (xs ys : List Int) : List Nat := if okI xs = true ∧ okI ys = true ∧ val (toN ys) ≠ 0 then dig (val (toN xs) % val (toN ys)) else []
theorem divN_no {xs ys : List Int} (h : okI xs = false ∨ okI ys = false) : quoN xs ys = [] ∧ remN xs ys = [] := by
  constructor
  · rw [quoN, if_neg (by rintro ⟨h1, h2⟩; rcases h with h | h <;> simp_all)]
  · rw [remN, if_neg (by rintro ⟨h1, h2, _⟩; rcases h with h | h <;> simp_all)]
theorem divN_yes {xs ys : List Int} (h1 : okI xs = true) (h2 : okI ys = true) : quoN xs ys = dig (val (toN xs) / val (toN ys)) ∧ remN xs ys = if val (toN ys) ≠ 0 then dig (val (toN xs) % val (toN ys)) else [] := by
  constructor
  · rw [quoN, if_pos ⟨h1, h2⟩]
  · simp [remN, h1, h2]
theorem quoN_len (xs ys : List Int) : (quoN xs ys).length ≤ 60 := by
  unfold quoN
  split
  · rename_i h
    obtain ⟨_, h1, h2⟩ := okI_nats h.1
    refine dig_len (Nat.lt_of_le_of_lt (Nat.div_le_self _ _) (Nat.lt_of_lt_of_le (val_lt h1.1) (Nat.pow_le_pow_right (by decide) h2)))
  · simp
theorem remN_len (xs ys : List Int) : (remN xs ys).length ≤ 60 := by
  unfold remN
  split
  · rename_i h
    obtain ⟨_, h1, h2⟩ := okI_nats h.1
    refine dig_len (Nat.lt_of_le_of_lt (Nat.mod_le _ _) (Nat.lt_of_lt_of_le (val_lt h1.1) (Nat.pow_le_pow_right (by decide) h2)))
  · simp
/-- What a function leaves that returns two rows in new memory. -/
def OwnR2 (e : TypeId) (xs ys : List Value) (w : World) (en : Ending) (w' : World) : Prop :=
  ∃ v0 v1, en = .returned (.tuple #[v0, v1]) ∧ OwnV w' w.heap.size e v0 xs ∧ OwnV w' w.heap.size e v1 ys ∧ (v0.ownBlock = none ∨ v0.ownBlock ≠ v1.ownBlock) ∧ (v1.ownBlock = none ∨ v1.ownBlock ≠ v0.ownBlock) ∧ Below w.heap.size w w'
theorem own2_nil (e : TypeId) (w w' : World) (h : Below w.heap.size w w') : OwnR2 e [] [] w (.returned (.tuple #[.slice none 0 0, .slice none 0 0])) w' :=
  ⟨_, _, rfl, OwnV.nil _ _ _, OwnV.nil _ _ _, .inl rfl, .inl rfl, h⟩
theorem qrow_zero (n : Nat) (QS : List Nat) (i : Nat) (h : i < n) : qrow (List.replicate n 0) (0 :: QS) i = qrow (List.replicate n 0) QS (i + 1) := by
  unfold qrow
  rw [List.take_replicate, List.take_replicate, Nat.min_eq_left (by omega), Nat.min_eq_left (by omega), List.replicate_succ' (n := i), List.drop_replicate, List.drop_replicate, List.append_assoc]
  have e : n - (i + (0 :: QS).length) = n - (i + 1 + QS.length) := by simp; omega
  rw [e]
  rfl
theorem OwnV.ne_of_lt {w : World} {base g : Nat} {e : TypeId} {v : Value} {xs : List Value} (h : OwnV w base e v xs) (hg : g < base) : v.ownBlock = none ∨ v.ownBlock ≠ some g := by
  cases hv : v.ownBlock with
  | none => exact .inl rfl
  | some k =>
    refine .inr fun e => ?_
    have := (h.lt k hv).1
    have e2 : k = g := Option.some.inj e
    omega
theorem qrow_all (n : Nat) (QS : List Nat) (h : QS.length ≤ n) : Digs QS → Digs (qrow (List.replicate n 0) QS 0) ∧ val (qrow (List.replicate n 0) QS 0) = val QS ∧ (qrow (List.replicate n 0) QS 0).length = n := by
  intro hd
  unfold qrow
  rw [List.take_zero, List.nil_append, List.drop_replicate, Nat.zero_add]
  exact ⟨digs_pad hd _, val_pad _ _, by simp; omega⟩
set_option maxRecDepth 100000 in
set_option maxHeartbeats 2000000 in
theorem natDiv_impl (A B : Option Addr) (n c m d : Nat) (xs ys : List Int) (w : World) (hA : VRow w A n (ints xs)) (hB : VRow w B m (ints ys)) (hn : n ≤ maxLen) (hm : m ≤ maxLen) :
    Calls Tryd.prog 7 #[.slice A n c, .slice B m d] w (OwnR2 3 (nats (quoN xs ys)) (nats (remN xs ys)) w) := by
  have HA := Lib.hid hA
  have HB := Lib.hid hB
  clear hA hB
  cases hx : okI xs with
  | false =>
    have HEQ := Lib.hid (divN_no (xs := xs) (ys := ys) (.inl hx))
    go_enter Tryd.func7, Tryd.ntmps7
    go_wp2_with fail
    refine (natOk_impl _ _ _ xs _ HA.out hn).mono ?_
    rintro e w1 ⟨rfl, hb⟩
    rw [hx]
    have HB1 := Lib.hid hb
    clear hb
    go_wp2
    go_ret2
    rw [HEQ.out.1, HEQ.out.2]
    exact own2_nil _ _ _ HB1.out
  | true =>
    obtain ⟨hxn, hxc, hxl⟩ := okI_nats hx
    go_enter Tryd.func7, Tryd.ntmps7
    go_wp2_with fail
    refine (natOk_impl _ _ _ xs _ HA.out hn).mono ?_
    rintro e w1 ⟨rfl, hb⟩
    rw [hx]
    have HB1 := Lib.hid hb
    clear hb
    go_wp2_with fail
    refine (natOk_impl _ _ _ ys _ (HB.out.below HB1.out (Nat.le_refl _)) hm).mono ?_
    rintro e w2 ⟨rfl, hb⟩
    have HB2 := Lib.hid (HB1.out.trans (hb.mono HB1.out.size))
    clear hb
    cases hy : okI ys with
    | false =>
      have HEQ := Lib.hid (divN_no (xs := xs) (ys := ys) (.inr hy))
      go_wp2
      go_ret2
      rw [HEQ.out.1, HEQ.out.2]
      exact own2_nil _ _ _ HB2.out
    | true =>
      obtain ⟨hyn, hyc, hyl⟩ := okI_nats hy
      have hA2 := HA.out.below HB2.out (Nat.le_refl _)
      have hBB2 := HB.out.below HB2.out (Nat.le_refl _)
      rw [hxn] at hA2
      rw [hyn] at hBB2
      have HEQ := Lib.hid (divN_yes hx hy)
      clear hxn hyn hx hy HA HB HB1
      generalize toN xs = ds at *
      generalize toN ys = es at *
      have HL := Lib.hid (show ds.length = n by simpa [nats_len] using hA2.1)
      have HM := Lib.hid (show es.length = m by simpa [nats_len] using hBB2.1)
      have hn60 : n ≤ 60 := by have := HL.out; omega
      have hm60 : m ≤ 60 := by have := HM.out; omega
      have HX := Lib.hid hxc
      have HY := Lib.hid hyc
      have HA2 := Lib.hid hA2
      have HBB2 := Lib.hid hBB2
      clear hxc hyc hA2 hBB2 hn hm hxl hyl
      by_cases hm0 : m = 0
      · subst hm0
        have HE0 := Lib.hid (show val es = 0 by rw [List.eq_nil_of_length_eq_zero HM.out]; rfl)
        go_wp2
        go_ret2
        rw [HEQ.out.1, HEQ.out.2, HE0.out, Nat.div_zero, dig_zero]
        exact own2_nil _ _ _ HB2.out
      have hm0b : ((m : Int) == 0) = false := beq_eq_false_iff_ne.mpr (by omega)
      have hV : val es ≠ 0 := by
        intro h
        have := (can_zero_iff HY.out).mp h
        have h2 := HM.out
        rw [this] at h2
        simp at h2
        omega
      have HR := Lib.hid (show remN xs ys = dig (val ds % val es) by rw [HEQ.out.2, if_pos hV])
      have HQ := Lib.hid HEQ.out.1
      clear hV
      obtain ⟨i0, hi, hz0, hz1, hz2⟩ := info_parts info_int
      go_wp2_with (at_make; refine wpList_make_full _ rfl _ _ _ rfl w2.heap.size 3 i0 _ 1 Tryd.underlying23 hi hz0 hz1 .i64 .i64 _ _ n rfl rfl rfl rfl (by rw [hz2]; omega) (by unfold maxLen; omega) (Nat.le_refl _) ?_; intro w3 hown hgrow)
      have hb3 := (Below.refl w2.heap.size w2).grown hgrow (Nat.le_refl _) (by simp)
      have HW3 := Lib.hid (made_whole hown)
      have HSZ3 := Lib.hid (made_whole hown).lt.2
      have HA3 := Lib.hid (HA2.out.below hb3 (Nat.le_refl _))
      have HBB3 := Lib.hid (HBB2.out.below hb3 (Nat.le_refl _))
      have HB3 := Lib.hid (HB2.out.trans (hb3.mono HB2.out.size))
      have HBL := Lib.hid (HBB2.out.off (Nat.le_refl _))
      clear hown hgrow hb3
      go_wp2_with fail
      refine (rowOf_any _ n c n _ (by first | rfl | omega) ds _ HA3.out (Nat.le_refl _) (by omega)).mono ?_
      rintro e w4 ⟨rfl, hw4, hb4⟩
      rw [Nat.sub_self, List.replicate_zero, List.append_nil] at hw4
      have HW4 := Lib.hid (hw4.based (Nat.le_of_lt HSZ3.out))
      have HZ4 := Lib.hid (HW3.out.below hb4)
      have HBB4 := Lib.hid (HBB3.out.below hb4 (Nat.le_refl _))
      have HBR := Lib.hid (show ∀ a : Addr, B = some a → a.block ≠ w3.heap.size ∧ a.block ≠ w2.heap.size from fun a ha => ⟨HBB3.out.off (Nat.le_refl _) (by omega) a ha, HBL.out (by omega) a ha⟩)
      have HB4 := Lib.hid (HB3.out.trans (hb4.mono HB3.out.size))
      clear hw4 hb4
      go_wp2_with fail
      refine (reduceRow_any w3.heap.size w2.heap.size n n n n m d w2.heap.size ds (List.replicate n 0) es B _ HW4.out HZ4.out HBB4.out HBR.out (by have := HSZ3.out; omega) HX.out.1 (by rw [List.take_of_length_le (by rw [HL.out]; exact Nat.le_refl _)]; exact HX.out) HY.out (Nat.le_refl _) (by rw [HL.out]; exact Nat.le_refl _) (by omega) (Nat.le_refl _) (by simp) (by rw [HL.out]; omega) (by omega)).mono ?_
      rintro e w5 ⟨r, rc, R, QS, rfl, hr1, hr2, hr3, hr4, hr5, hr6, hr7, hz5, hq1, hq2, hq3, hlv⟩
      have htk : ds.take n = ds := List.take_of_length_le (by rw [HL.out]; exact Nat.le_refl _)
      rw [htk] at hr1 hr6 hq3
      have hrow : OwnV w5 w2.heap.size 3 (.slice (some ⟨w3.heap.size, 0, none⟩) r rc) (nats (dig (val ds % val es))) := by
        have h := (OwnV.of_whole hr7).cut (m := r) (c2 := rc) (by rw [nats_len]; omega) hr2 (by rw [nats_len]; exact hr3)
        rw [nats_take, hr6] at h
        exact h
      have hqq := qrow_all n QS hq1 hq2
      have HO1 := Lib.hid hrow
      have HZ5 := Lib.hid hz5
      have HQQ := Lib.hid hqq
      have HQV := Lib.hid hq3
      have HB5 := Lib.hid (hlv.below HB4.out HB4.out.size (Nat.le_trans HB3.out.size (Nat.le_refl _)) HB2.out.size)
      clear hr1 hr2 hr3 hr4 hr5 hr6 hr7 hz5 hq1 hq2 hq3 hlv hrow hqq
      go_wp2_with fail
      refine (natOrNil_any _ n _ _ HQQ.out.2.2 _ HZ5.out HQQ.out.1 (by omega)).mono ?_
      rintro e w6 ⟨⟨v6, rfl, ho6, hblk⟩, rfl⟩
      have hlt : val ds / val es < 1000000000 ^ 60 := Nat.lt_of_le_of_lt (Nat.div_le_self _ _) (Nat.lt_of_lt_of_le (val_lt HX.out.1) (Nat.pow_le_pow_right (by decide) (by rw [HL.out]; omega)))
      rw [HQQ.out.2.1, HQV.out, capd_of hlt] at ho6
      have HO6 := Lib.hid ho6
      have HBK := Lib.hid hblk
      clear ho6 hblk hlt
      go_wp2
      go_ret2
      refine ⟨v6, .slice (some ⟨w3.heap.size, 0, none⟩) r rc, rfl, ?_, ?_, ?_, ?_, HB5.out⟩
      · rw [HQ.out]; exact HO6.out.based HB2.out.size
      · rw [HR.out]; exact HO1.out.based HB2.out.size
      · rcases HBK.out with h | h
        · exact .inl h
        · refine .inr fun e => ?_
          rw [h] at e
          have e9 : w2.heap.size = w3.heap.size := Option.some.inj e
          have := HSZ3.out
          omega
      · refine .inr fun e => ?_
        rcases HBK.out with h | h
        · rw [h] at e; simp [Value.ownBlock] at e
        · rw [h] at e
          have e9 : w3.heap.size = w2.heap.size := Option.some.inj e
          have := HSZ3.out
          omega
end Go.Proofs.YtfhndfcncedieaaDoor
