/- Contracts of spec.SplitAny and impl.SplitAny: each returns, in new memory, the parts of the string. Conditions: both strings at most 2^20 bytes long. -/
import Derived.Test.YtnifekbiggeekaaDoorProg
import Derived.Test.YtnifekbiggeekaaDoorMem
import Derived.Test.YtnifekbiggeekaaDoorHelpS
import Derived.Test.YtnifekbiggeekaaDoorSplitMath
namespace Go.Proofs.YtnifekbiggeekaaDoor
open Go.RowKit Sp
set_option linter.unusedVariables false

theorem getD_byte (s : ByteArray) (k : Nat) (h : k < s.size) : s.data.toList.getD k 0 = s[k] := by
  have h' : k < s.data.toList.length := by simpa using h
  rw [List.getD_eq_getElem?_getD, List.getElem?_eq_getElem h']
  rfl
/-- The round that cuts, for the relation of both loops. -/
theorem split_cut {s b : ByteArray} {w w1 w2 : World} {v v' : Value} {k base : Nat} (hk : k < s.size) (hc : cuts b s[k] = true) (hbs : w.heap.size ≤ base)
    (hbel : Below w.heap.size w w1) (hown : w1.ownsRow base 9 1 v (scan s b k).1.length ((scan s b k).1.map .string)) {o : Obj}
    (hown' : w2.ownsRow base 9 1 v' ((scan s b k).1.length + 1) ((scan s b k).1.map .string ++ [.string (s.extract (scan s b k).2 k)])) (hg : (w1.alloc o).grownBy w2 v.ownBlock) :
    (scan s b (k + 1)).2 = k + 1 ∧ w2.ownsRow base 9 1 v' (scan s b (k + 1)).1.length ((scan s b (k + 1)).1.map .string) ∧ Below w.heap.size w w2 := by
  have e := scan_yes s b k (by rw [getD_byte s k hk]; exact hc)
  refine ⟨by rw [e], by rw [e]; simpa using hown', ?_⟩
  exact (hbel.alloc hbel.size o).grown hg (Nat.le_trans hbel.size (by simp)) (fun k hk => Nat.le_trans hbs (hown.lt k hk).1)
theorem split_skip {s b : ByteArray} {k : Nat} (hk : k < s.size) (hc : cuts b s[k] = false) : scan s b (k + 1) = scan s b k :=
  scan_no s b k (by rw [getD_byte s k hk]; exact hc)
theorem split_end {s b : ByteArray} {w w1 w2 : World} {v v' : Value} {k base : Nat} (hk : ¬ k < s.size) (hk2 : k ≤ s.size) (hbs : w.heap.size ≤ base)
    (hbel : Below w.heap.size w w1) (hown : w1.ownsRow base 9 1 v (scan s b k).1.length ((scan s b k).1.map .string)) {o : Obj}
    (hown' : w2.ownsRow base 9 1 v' ((scan s b k).1.length + 1) ((scan s b k).1.map .string ++ [.string (s.extract (scan s b k).2 s.size)])) (hg : (w1.alloc o).grownBy w2 v.ownBlock) : OwnS (parts s b) w (.returned v') w2 := by
  obtain rfl : k = s.size := by omega
  refine ⟨v', rfl, own_base (by simpa [parts] using hown') hbs, ?_⟩
  exact (hbel.alloc hbel.size o).grown hg (Nat.le_trans hbel.size (by simp)) (fun k hk => Nat.le_trans hbs (hown.lt k hk).1)


/-- The zero value of [256]bool, kept closed to the walk. -/
def zeros256 : Array Value := Array.replicate 256 (.bool false)
theorem zero256 (w : World) : (zeroValue 46).run Tryd.prog w = .ok (.agg zeros256) w := by kernel_rfl
/-- The table of bytes to cut at, behind the first j bytes of b, lies in block g. -/
def Table (b : ByteArray) (g j : Nat) (w : World) : Prop :=
  ∃ cs, w.heap[g]? = some (.cells cs 46 (0, 0)) ∧ ∀ x : UInt8, cs[x.toNat]? = some (.bool ((b.data.toList.take j).contains x))
theorem Table.start (b : ByteArray) (w : World) : Table b w.heap.size 0 (w.alloc (.cells zeros256 46)) := by
  refine ⟨zeros256, heap_alloc_new w _, fun x => ?_⟩
  have := x.toNat_lt
  simp [zeros256, Array.getElem?_replicate]
  omega
theorem Table.cell {b : ByteArray} {g j : Nat} {w : World} (h : Table b g j w) (x : UInt8) : w.cell? ⟨g, x.toNat, none⟩ = some (.bool ((b.data.toList.take j).contains x)) := by
  obtain ⟨cs, h1, h2⟩ := h
  rw [cell_of_row w g x.toNat cs _ (0, 0) h1]
  exact h2 x
theorem Table.frozen {b : ByteArray} {g j : Nat} {w : World} (h : Table b g j w) (x : Nat) : w.frozen? ⟨g, x, none⟩ = false := by
  obtain ⟨cs, h1, _⟩ := h
  exact frozen_of_row w g x cs _ h1
theorem Table.step {b : ByteArray} {g j : Nat} {w : World} (h : Table b g j w) (hj : j < b.size) : Table b g (j + 1) (w.setCell ⟨g, b[j].toNat, none⟩ (.bool true)) := by
  obtain ⟨cs, h1, h2⟩ := h
  refine ⟨cs.setIfInBounds b[j].toNat (.bool true), heap_setCell_same w g _ cs _ _ h1, fun x => ?_⟩
  rw [cuts_take b x j hj]
  by_cases hx : x = b[j]
  · subst hx
    have hlt : b[j].toNat < cs.size := by
      have := h2 b[j]
      rcases Nat.lt_or_ge b[j].toNat cs.size with h | h
      · exact h
      · rw [Array.getElem?_eq_none h] at this; cases this
    rw [Array.getElem?_setIfInBounds_self_of_lt hlt]
    simp
  · rw [Array.getElem?_setIfInBounds_ne (fun e => hx (UInt8.toNat_inj.1 e.symm))]
    rw [h2 x, beq_false_of_ne hx, Bool.or_false]
theorem Table.keep {b : ByteArray} {g j : Nat} {w w' : World} (h : Table b g j w) (hk : w'.heap[g]? = w.heap[g]?) : Table b g j w' := by
  obtain ⟨cs, h1, h2⟩ := h
  exact ⟨cs, hk.trans h1, h2⟩
theorem Table.full {b : ByteArray} {g j : Nat} {w : World} (h : Table b g j w) (hj : ¬ j < b.size) : Table b g b.size w := by
  obtain ⟨cs, h1, h2⟩ := h
  refine ⟨cs, h1, fun x => ?_⟩
  have e : b.data.toList.length = b.size := by simp
  rw [h2 x, List.take_of_length_le (by omega), List.take_of_length_le (by omega)]
theorem Table.cuts {b : ByteArray} {g : Nat} {w : World} (h : Table b g b.size w) (x : UInt8) : w.cell? ⟨g, x.toNat, none⟩ = some (.bool (Sp.cuts b x)) := by
  have e : b.data.toList.length = b.size := by simp
  rw [h.cell x, List.take_of_length_le (by omega)]
  rfl

set_option maxHeartbeats 1000000 in
theorem splitAny_impl (s b : ByteArray) (w : World) (hs : s.size ≤ 1048576) (hb : b.size ≤ 1048576) :
    Calls Tryd.prog 11 #[.string s, .string b] w (OwnS (parts s b) w) := by
  obtain ⟨i0, hi, hz0, hz1, hz2⟩ := info_parts info_str
  have hz256 := zero256
  go_enter Tryd.func11, Tryd.ntmps11
  go_wp2
  go_loopw [12] (fun i wr => ∃ j : Nat, j ≤ b.size ∧ i = .int .i64 j ∧ Table b w.heap.size j wr ∧ Below w.heap.size w wr ∧ w.heap.size < wr.heap.size) (fun i _ => b.size - (intOf i).toNat)
  case atStart => exact ⟨0, Nat.zero_le _, rfl, Table.start b w, (Below.refl _ _).alloc (Nat.le_refl _) _, by simp⟩
  case round =>
    obtain ⟨j, hj, rfl, htab, hbel, hlt⟩ := hrel
    have HT := Lib.hid htab
    have HB := Lib.hid hbel
    clear htab hbel
    by_cases hjl : j < b.size
    · have hx := b[j].toNat_lt
      have hc := HT.out.cell b[j]
      have hf := HT.out.frozen b[j].toNat
      go_wp2
      exact ⟨⟨j + 1, by omega, by go_num, HT.out.step hjl, HB.out.setCell (Nat.le_refl _) _, by simpa [World.setCell] using hlt⟩, by simp [intOf]; omega⟩
    · have HF := Lib.hid (HT.out.full hjl)
      clear HT
      go_wp2
      go_loopw [7, 8, 22] (fun out from_ i w2 => ∃ k : Nat, k ≤ s.size ∧ i = .int .i64 k ∧ from_ = .int .i64 ((scan s b k).2 : Nat) ∧ w2.ownsRow (w.heap.size + 1) 9 1 out (scan s b k).1.length ((scan s b k).1.map .string) ∧ Below w.heap.size w w2 ∧ w.heap.size < w2.heap.size ∧ Table b w.heap.size b.size w2) (fun _ _ i _ => s.size - (intOf i).toNat)
      case atStart => exact ⟨0, Nat.zero_le _, rfl, rfl, World.ownsRow_nil _ _ _ _, HB.out, hlt, HF.out⟩
      case round =>
        obtain ⟨k, hk, rfl, hf, hown, hbel, hlt2, htab⟩ := hrel
        obtain ⟨ps, fr, hsc⟩ : ∃ ps fr, scan s b k = (ps, fr) := ⟨_, _, rfl⟩
        have hsl := scan_le s b k
        have HO := Lib.hid hown
        have HBB := Lib.hid hbel
        have HT := Lib.hid htab
        have HSC := Lib.hid hsc
        rw [hsc] at hf hsl hown
        have HO' := Lib.hid hown
        simp only at hf hsl
        subst hf
        clear hown hbel hsc htab
        by_cases hkl : k < s.size
        · have hx := s[k].toNat_lt
          by_cases hcut : cuts b s[k] = true
          · have hc := HT.out.cuts s[k]
            rw [hcut] at hc
            have HC := Lib.hid hcut
            clear hcut
            have HCELL := Lib.hid (cell_one_new wr (.string (s.extract fr k)) 9)
            go_wp2_with (at_builtin; refine wpList_append_own _ rfl (.tmp 30) (.tmp 35) 29 rfl (w.heap.size + 1) 9 i0 _ 1 16 Tryd.underlying29 hi hz0 hz1 hz2 rfl (by decide) u7 ps.length (ps.map .string) rfl (HO'.out.alloc _) ⟨wr.heap.size, 0, none⟩ 1 1 [.string (s.extract fr k)] rfl rfl HCELL.out (by simp [Value.oneCell']) (by unfold maxLen; omega) (by omega) (by simp; omega) ?_; intro v' w4 hown' hgrow _)
            have HW := Lib.hid hown'
            have HG := Lib.hid hgrow
            clear hown' hgrow
            go_wp2
            have R := split_cut (o := .cells #[.string (s.extract fr k)] 9) (v := u7) (v' := v') (w2 := w4) hkl HC.out (Nat.le_succ _) HBB.out HO.out (by rw [HSC.out]; exact HW.out) HG.out
            refine ⟨⟨k + 1, by omega, by go_num, by rw [R.1]; go_num, R.2.1, R.2.2, ?_, ?_⟩, by simp [intOf]; omega⟩
            · have := HG.out.size
              simp at this; omega
            · refine HT.out.keep ?_
              rw [HG.out.block w.heap.size (by simp; omega) (fun e => by have := (HO.out.lt _ e.symm).1; omega)]
              exact Below.heap_alloc wr _ _ hlt2
          · have hcf : cuts b s[k] = false := by simpa using hcut
            have hc := HT.out.cuts s[k]
            rw [hcf] at hc
            have HC := Lib.hid hcf
            clear hcut hcf
            go_wp2
            have e := split_skip hkl HC.out
            exact ⟨⟨k + 1, by omega, by go_num, by rw [e, HSC.out], by rw [e]; exact HO.out, HBB.out, hlt2, HT.out⟩, by simp [intOf]; omega⟩
        · have HCELL := Lib.hid (cell_one_new wr (.string (s.extract fr s.size)) 9)
          go_wp2_with (at_builtin; refine wpList_append_own _ rfl (.tmp 40) (.tmp 44) 29 rfl (w.heap.size + 1) 9 i0 _ 1 16 Tryd.underlying29 hi hz0 hz1 hz2 rfl (by decide) u7 ps.length (ps.map .string) rfl (HO'.out.alloc _) ⟨wr.heap.size, 0, none⟩ 1 1 [.string (s.extract fr s.size)] rfl rfl HCELL.out (by simp [Value.oneCell']) (by unfold maxLen; omega) (by omega) (by simp; omega) ?_; intro v' w4 hown' hgrow _)
          have HW := Lib.hid hown'
          have HG := Lib.hid hgrow
          clear hown' hgrow
          go_wp2
          go_ret
          exact split_end (o := .cells #[.string (s.extract fr s.size)] 9) (v := u7) (k := k) hkl hk (Nat.le_succ _) HBB.out HO.out (by rw [HSC.out]; exact HW.out) HG.out
end Go.Proofs.YtnifekbiggeekaaDoor
