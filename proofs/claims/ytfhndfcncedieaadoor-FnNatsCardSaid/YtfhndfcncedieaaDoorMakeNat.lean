/- Contracts of the laws' draws l01Below beyond 256, l01Pick, l02Nat and MakeNat. Conditions: none. -/
import Derived.Test.YtfhndfcncedieaaDoorProg
import Derived.Test.YtfhndfcncedieaaDoorCursor
import Derived.Test.YtfhndfcncedieaaDoorNatOf
import Derived.Test.YtfhndfcncedieaaDoorReduce
namespace Go.Proofs.YtfhndfcncedieaaDoor
open Go.RowKit Nt
set_option linter.unusedVariables false

theorem CurAt.other {B : Nat} {zs : List Int} {A : Option Addr} {n c g : Nat} {w w' : World} {row : Option Nat} (hc : CurAt B zs A n c g w) (hg : w.grownBy w' row) (hr : ∀ k, row = some k → g < k) : CurAt B zs A n c g w' := by
  have hge := hc.ge
  have hlt := hc.lt
  obtain ⟨i, h, hb, h0, h1⟩ := hc.block
  refine ⟨hge, ?_, hc.low, hc.len, hc.fits, i, h, (hg.block g hlt (fun e => by have := hr g e.symm; omega)).trans hb, h0, h1⟩
  by_cases hn : 0 < n
  · obtain ⟨g0, o, rfl, hlt0⟩ := hc.low hn
    exact hc.bytes.grown hg (fun a ha e => by
      injection ha with ha
      subst ha
      have := hr g0 e.symm
      omega)
  · obtain rfl : n = 0 := by omega
    have : zs.map (Value.int .u8) = [] := List.eq_nil_of_length_eq_zero hc.bytes.1
    rw [this]
    exact VRow.empty _ _
theorem Leaves.later {w w' w2 : World} {g1 g2 : Nat} {row : Option Nat} (h : Leaves w w' g1 g2) (hg : w'.grownBy w2 row) (hr : ∀ k, row = some k → w.heap.size ≤ k) : Leaves w w2 g1 g2 :=
  ⟨hg.os.trans h.os, hg.tape.trans h.tape, hg.output.trans h.output, Nat.le_trans h.size hg.size, fun k hk n1 n2 => (hg.block k (Nat.lt_of_lt_of_le hk h.size) (fun e => by have := hr k e.symm; omega)).trans (h.block k hk n1 n2)⟩
theorem Leaves.alloc {w w' : World} {g1 g2 : Nat} (h : Leaves w w' g1 g2) (o : Obj) : Leaves w (w'.alloc o) g1 g2 :=
  ⟨h.os, h.tape, h.output, Nat.le_trans h.size (by simp), fun k hk n1 n2 => (Below.heap_alloc w' o k (Nat.lt_of_lt_of_le hk h.size)).trans (h.block k hk n1 n2)⟩

set_option maxRecDepth 100000 in
set_option maxHeartbeats 1000000 in
theorem l01Below_big (B : Nat) (zs : List Int) (A : Option Addr) (n c g : Nat) (w : World) (m : Int) (hm0 : 256 < m) (hm1 : m ≤ 4294967295) (hc : CurAt B zs A n c g w) :
    Calls Tryd.prog 39 #[.pointer (some ⟨g, 0, none⟩), .int .i64 m] w (Drawn B zs A n c g (m - 1) w) := by
  have HC := Lib.hid hc
  clear hc
  have hm2 : ¬ m ≤ 0 := by omega
  have hm3 : ¬ m ≤ 256 := by omega
  have hm4 : ¬ m = 0 := by omega
  have hm5 : (m == 0) = false := beq_eq_false_iff_ne.mpr hm4
  go_enter Tryd.func39, Tryd.ntmps39
  go_wp2_with fail
  refine (l01Byte_any B zs A n c g _ HC.out).mono ?_
  rintro e w1 ⟨x1, rfl, hx0, hx1, hc1, hg1⟩
  have HC1 := Lib.hid hc1
  have HG1 := Lib.hid hg1
  clear hc1 hg1
  go_wp2_with fail
  refine (l01Byte_any B zs A n c g _ HC1.out).mono ?_
  rintro e w2 ⟨x2, rfl, hy0, hy1, hc2, hg2⟩
  have HC2 := Lib.hid hc2
  have HG2 := Lib.hid (grown_grown HG1.out hg2)
  clear hc2 hg2
  go_wp2_with fail
  refine (l01Byte_any B zs A n c g _ HC2.out).mono ?_
  rintro e w3 ⟨x3, rfl, hz0, hz1, hc3, hg3⟩
  have HC3 := Lib.hid hc3
  have HG3 := Lib.hid (grown_grown HG2.out hg3)
  clear hc3 hg3
  go_wp2_with fail
  refine (l01Byte_any B zs A n c g _ HC3.out).mono ?_
  rintro e w4 ⟨x4, rfl, hu0, hu1, hc4, hg4⟩
  have HC4 := Lib.hid hc4
  have HG4 := Lib.hid (grown_grown HG3.out hg4)
  clear hc4 hg4
  have hnn : 0 ≤ x1 * 16777216 + x2 * 65536 + x3 * 256 + x4 := by omega
  go_wp2
  go_ret
  refine ⟨_, rfl, ?_, ?_, HC4.out, HG4.out⟩
  · exact Int.emod_nonneg _ (by omega)
  · have := Int.emod_lt_of_pos (x1 * 16777216 + x2 * 65536 + x3 * 256 + x4) (show 0 < m by omega)
    omega
/-- What l01Pick leaves: one of the numbers, and the cursor again. -/
def DrawnI (B : Nat) (zs : List Int) (A : Option Addr) (n c g : Nat) (xs : List Int) (w : World) (e : Ending) (w' : World) : Prop :=
  ∃ t, e = .returned (.int .i64 t) ∧ t ∈ xs ∧ CurAt B zs A n c g w' ∧ w.grownBy w' (some g)
set_option maxRecDepth 100000 in
set_option maxHeartbeats 400000 in
theorem l01Pick_any (B : Nat) (zs : List Int) (A : Option Addr) (n c g : Nat) (L m cap : Nat) (xs : List Int) (w : World) (hm0 : 0 < m) (hm1 : m ≤ 256) (hc : CurAt B zs A n c g w) (hx : VRow w (some ⟨L, 0, none⟩) m (ints xs)) (hL : L ≠ g) :
    Calls Tryd.prog 40 #[.pointer (some ⟨g, 0, none⟩), .slice (some ⟨L, 0, none⟩) m cap] w (DrawnI B zs A n c g xs w) := by
  have HC := Lib.hid hc
  have HX := Lib.hid hx
  have HL := Lib.hid (show xs.length = m by simpa [ints] using hx.1)
  clear hc hx
  go_enter Tryd.func40, Tryd.ntmps40
  go_wp2_with fail
  refine (l01Below_any B zs A n c g _ _ (by omega) (by omega) HC.out).mono ?_
  rintro e w1 ⟨x, rfl, hx0, hx1, hc1, hg1⟩
  have HC1 := Lib.hid hc1
  have HG1 := Lib.hid hg1
  obtain ⟨k, rfl⟩ : ∃ k : Nat, x = (k : Int) := ⟨x.toNat, by omega⟩
  have hk : k < m := by omega
  obtain ⟨g1, o1, hgo, _, hcell⟩ := (HX.out.grown hg1 (fun a ha => by injection ha with ha; subst ha; intro e; exact hL (by simpa using e))).at_ hk
  obtain ⟨rfl, rfl⟩ : L = g1 ∧ 0 = o1 := by simpa using hgo
  rw [ints_get] at hcell
  simp only [Nat.zero_add] at hcell
  have hkx : k < xs.length := by have := HL.out; omega
  have HM := Lib.hid (List.getElem_mem hkx)
  obtain ⟨t, ht⟩ : ∃ t, xs[k] = t := ⟨_, rfl⟩
  rw [ht] at hcell HM
  clear ht hgo hc1 hg1
  go_wp2
  go_ret
  exact ⟨t, rfl, HM.out, HC1.out, HG1.out⟩
/-- What MakeNat leaves: the limbs of a number below the base's third power, in a row that can grow. -/
def MadeNat (w : World) (e : Ending) (w' : World) : Prop :=
  ∃ (V : Nat) (v : Value), e = .returned v ∧ V < 1000000000 ^ 3 ∧ w'.ownsRow w.heap.size 3 1 v (dig V).length (nats (dig V)) ∧ Below w.heap.size w w'
set_option maxRecDepth 100000 in
set_option maxHeartbeats 4000000 in
theorem l02Nat_any (B : Nat) (zs : List Int) (A : Option Addr) (n c g : Nat) (w : World) (hc : CurAt B zs A n c g w) :
    Calls Tryd.prog 20 #[.pointer (some ⟨g, 0, none⟩), .int .i64 3] w fun e w' => ∃ (V : Nat) (v : Value), e = .returned v ∧ V < 1000000000 ^ 3 ∧ w'.ownsRow w.heap.size 3 1 v (dig V).length (nats (dig V)) ∧ Leaves w w' g g := by
  obtain ⟨i0, hi, hz0, hz1, hz2⟩ := info_parts info_int
  have hgl := hc.lt
  have HC := Lib.hid (hc.alloc (.cells #[] 3))
  clear hc
  go_enter Tryd.func20, Tryd.ntmps20
  go_wp2_with fail
  refine (l01Below_any B zs A n c g _ 4 (by omega) (by omega) HC.out).mono ?_
  rintro e w1 ⟨x, rfl, hx0, hx1, hc1, hg1⟩
  have HC1 := Lib.hid hc1
  have HLV1 := Lib.hid (((Leaves.refl w g g).alloc (.cells #[] 3)).grown1 hg1)
  have HO1 := Lib.hid ((World.ownsRow_made (base := w.heap.size) (e := 3) (size := 1) w #[] 0 (Nat.le_refl _) (Nat.zero_le _) rfl).kept hg1 (.inr (by intro e; have e9 : w.heap.size = g := Option.some.inj e; omega)))
  obtain ⟨m, rfl⟩ : ∃ k : Nat, x = (k : Int) := ⟨x.toNat, by omega⟩
  have hm3 : m ≤ 3 := by omega
  clear hc1 hg1 hx0 hx1
  go_wp2
  go_loopw [5, 6] (fun v i wr => ∃ (k : Nat) (ps : List Nat), ps.length + k ≤ 3 ∧ i = .int .i64 k ∧ Digs ps ∧ wr.ownsRow w.heap.size 3 1 v ps.length (nats ps) ∧ CurAt B zs A n c g wr ∧ Leaves w wr g g) (fun _ i _ => (intOf i).toNat)
  case atStart => exact ⟨m, [], by simpa using hm3, rfl, Digs.nil, HO1.out, HC1.out, HLV1.out⟩
  case round =>
    obtain ⟨k, ps, hk, rfl, hd, ho, hcr, hlv⟩ := hrel
    have HD := Lib.hid hd
    have HO := Lib.hid ho
    have HCr := Lib.hid hcr
    have HLV := Lib.hid hlv
    clear hd ho hcr hlv
    by_cases hlt : 0 < k
    · go_wp2_with fail
      refine (l01Below_big B zs A n c g _ 1000000000 (by omega) (by omega) HCr.out).mono ?_
      rintro e w2 ⟨x1, rfl, ha0, ha1, hc2, hg2⟩
      have HC2 := Lib.hid hc2
      have HLV2 := Lib.hid (HLV.out.grown1 hg2)
      have HO2 := Lib.hid (HO.out.kept hg2 (by cases hv : u5.ownBlock with
        | none => exact .inl rfl
        | some q => refine .inr fun e => ?_; have := (HO.out.lt q hv).1; have e9 : q = g := Option.some.inj e; omega))
      clear hc2 hg2
      go_wp2_with fail
      refine (l01Below_big B zs A n c g _ 1000000000 (by omega) (by omega) HC2.out).mono ?_
      rintro e w3 ⟨x2, rfl, hb0, hb1, hc3, hg3⟩
      have HC3 := Lib.hid (hc3.alloc (.cells #[.int .i64 0, .int .i64 1, .int .i64 2, .int .i64 999999999, .int .i64 500000000, .int .i64 x1, .int .i64 x2] 3))
      have HLV3 := Lib.hid ((HLV2.out.grown1 hg3).alloc (.cells #[.int .i64 0, .int .i64 1, .int .i64 2, .int .i64 999999999, .int .i64 500000000, .int .i64 x1, .int .i64 x2] 3))
      have HO3 := Lib.hid ((HO2.out.kept hg3 (by cases hv : u5.ownBlock with
        | none => exact .inl rfl
        | some q => refine .inr fun e => ?_; have := (HO2.out.lt q hv).1; have e9 : q = g := Option.some.inj e; omega)).alloc (.cells #[.int .i64 0, .int .i64 1, .int .i64 2, .int .i64 999999999, .int .i64 500000000, .int .i64 x1, .int .i64 x2] 3))
      have HV := Lib.hid (vrow_new w3 [.int .i64 0, .int .i64 1, .int .i64 2, .int .i64 999999999, .int .i64 500000000, .int .i64 x1, .int .i64 x2] 3)
      have hg3l := hc3.lt
      clear hc3 hg3
      go_wp2_with fail
      refine (l01Pick_any B zs A n c g w3.heap.size 7 7 [0, 1, 2, 999999999, 500000000, x1, x2] _ (by omega) (by omega) HC3.out HV.out (by omega)).mono ?_
      rintro e w4 ⟨t, rfl, ht, hc4, hg4⟩
      have htb : 0 ≤ t ∧ t < 1000000000 := by
        simp only [List.mem_cons, List.not_mem_nil, or_false] at ht
        rcases ht with rfl | rfl | rfl | rfl | rfl | rfl | rfl <;> omega
      have HC4 := Lib.hid hc4
      have HLV4 := Lib.hid (HLV3.out.grown1 hg4)
      have HO4 := Lib.hid (HO3.out.kept hg4 (by cases hv : u5.ownBlock with
        | none => exact .inl rfl
        | some q => refine .inr fun e => ?_; have := (HO3.out.lt q hv).1; have e9 : q = g := Option.some.inj e; omega))
      obtain ⟨t, rfl⟩ : ∃ d : Nat, t = d := ⟨t.toNat, by omega⟩
      have HCELL := Lib.hid (cell_new w4 (.int .i64 (t : Int)) 3)
      have hsz4 := HLV4.out.size
      clear ht hc4 hg4
      go_wp2_with (at_builtin; refine wpList_append_own _ rfl (.tmp 16) (.tmp 24) 23 rfl w.heap.size 3 i0 _ 1 8 Tryd.underlying23 hi hz0 hz1 hz2 rfl (by decide) u5 ps.length (nats ps) rfl (HO4.out.alloc _) ⟨w4.heap.size, 0, none⟩ 1 1 [.int .i64 (t : Int)] rfl rfl HCELL.out (by simp [Value.oneCell']) (by unfold maxLen; omega) (by omega) (by simp; omega) ?_; intro v' w5 hown' hgrow _)
      have HW := Lib.hid hown'
      have HLV5 := Lib.hid ((HLV4.out.alloc (.cells #[.int .i64 (t : Int)] 3)).later hgrow (fun q hq => (HO4.out.lt q hq).1))
      have HC5 := Lib.hid ((HC4.out.alloc (.cells #[.int .i64 (t : Int)] 3)).other hgrow (fun q hq => by have := (HO4.out.lt q hq).1; omega))
      clear hown' hgrow
      go_wp2
      refine ⟨⟨k - 1, ps ++ [t], by simp; omega, by go_num, HD.out.app (fun y hy => by simp at hy; omega), ?_, HC5.out, HLV5.out⟩, by simp [intOf]; omega⟩
      rw [List.length_append, nats_app]; exact HW.out
    · obtain rfl : k = 0 := by omega
      obtain ⟨A9, c9, rfl⟩ := own_shape HO.out
      have hrow := VRow.of_own HO.out
      have hcap := own_cap HO.out
      have hnil : A9 = none → c9 = 0 := fun h => (OwnV.of_own HO.out).nil_cap h
      have hdl := dig_le_len HD.out
      have htk := own_take HO.out hdl
      rw [nats_take, take_dig HD.out] at htk
      have HTK := Lib.hid htk
      have HV := Lib.hid (show val ps < 1000000000 ^ 3 from Nat.lt_of_lt_of_le (val_lt HD.out) (Nat.pow_le_pow_right (by decide) (by omega)))
      have HROW := Lib.hid hrow
      have HCAP := Lib.hid hcap
      have HNIL := Lib.hid hnil
      clear htk hrow hcap hnil hdl
      go_wp2_with fail
      refine (l02Trim_any _ _ _ ps _ HROW.out HD.out HCAP.out.1 HCAP.out.2 HNIL.out).mono ?_
      rintro e w2 ⟨rfl, rfl⟩
      go_wp2
      go_ret
      exact ⟨val ps, _, rfl, HV.out, HTK.out, HLV.out⟩
set_option maxRecDepth 100000 in
set_option maxHeartbeats 400000 in
theorem makeNat_any (zs : List Int) (A : Option Addr) (n c : Nat) (m : Int) (w : World) (hm0 : 0 ≤ m) (hm1 : m ≤ 1000) (hA : VRow w A n (zs.map (.int .u8))) (hn : n ≤ 1048576) (hz : ∀ z ∈ zs, 0 ≤ z ∧ z ≤ 255) :
    Calls Tryd.prog 6 #[.slice A n c, .int .i64 m] w (MadeNat w) := by
  have HA := Lib.hid hA
  have HZ := Lib.hid hz
  clear hz hA
  go_enter Tryd.func6, Tryd.ntmps6
  go_wp2_with fail
  refine (l32New_any zs A n c (4 * m) w (by omega) (by omega) HA.out hn HZ.out).mono ?_
  rintro e w1 ⟨g, rfl, hc1, hb1⟩
  have HC1 := Lib.hid hc1
  have HB1 := Lib.hid hb1
  clear hc1 hb1
  go_wp2_with fail
  refine (l02Nat_any _ zs A n c g _ HC1.out).mono ?_
  rintro e w2 ⟨V, v, rfl, hV, ho, hlv⟩
  have HO := Lib.hid (own_base ho HB1.out.size)
  have HB2 := Lib.hid (hlv.below HB1.out HB1.out.size HC1.out.ge HC1.out.ge)
  have HV := Lib.hid hV
  clear hV ho hlv
  go_wp2
  go_ret
  exact ⟨V, v, rfl, HV.out, HO.out, HB2.out⟩
end Go.Proofs.YtfhndfcncedieaaDoor
