/- Contracts of spec.SplitAny and impl.SplitAny: each returns, in new memory, the parts of the string. Conditions: both strings at most 2^20 bytes long. -/
import Derived.Test.YtdilgjakodimbaaGreatDoorProg
import Derived.Test.YtdilgjakodimbaaGreatDoorMem
import Derived.Test.YtdilgjakodimbaaGreatDoorHelpS
import Derived.Test.YtdilgjakodimbaaGreatDoorSplitMath
namespace Go.Proofs.YtdilgjakodimbaaGreatDoor
open Go.RowKit Sp
set_option linter.unusedVariables false

theorem getD_byte (s : ByteArray) (k : Nat) (h : k < s.size) : s.data.toList.getD k 0 = s[k] := by
  have h' : k < s.data.toList.length := by simpa using h
  rw [List.getD_eq_getElem?_getD, List.getElem?_eq_getElem h']
  rfl
/-- The round that cuts, for the relation of both loops. -/
theorem split_cut {s b : ByteArray} {w w1 w2 : World} {v v' : Value} {k base : Nat} (hk : k < s.size) (hc : cuts b s[k] = true) (hbs : w.heap.size ≤ base)
    (hbel : Below w.heap.size w w1) (hown : w1.ownsRow base 9 1 v (scan s b k).1.length ((scan s b k).1.map .string)) {o : Obj}
    (hown' : w2.ownsRow base 9 1 v' ((scan s b k).1.length + 1) ((scan s b k).1.map .string ++ [.string (s.extract (scan s b k).2 k)])) (hg : (w1.alloc o).grownBy w2 v.ownBlock) :
    (scan s b (k + 1)).2 = k + 1 ∧ w2.ownsRow base 9 1 v' (scan s b (k + 1)).1.length ((scan s b (k + 1)).1.map .string) ∧ Below w.heap.size w w2 := by
  have e := scan_yes s b k (by rw [getD_byte s k hk]; exact hc)
  refine ⟨by rw [e], by rw [e]; simpa using hown', ?_⟩
  exact (hbel.alloc hbel.size o).grown hg (Nat.le_trans hbel.size (by simp)) (fun k hk => Nat.le_trans hbs (hown.lt k hk).1)
theorem split_skip {s b : ByteArray} {k : Nat} (hk : k < s.size) (hc : cuts b s[k] = false) : scan s b (k + 1) = scan s b k :=
  scan_no s b k (by rw [getD_byte s k hk]; exact hc)
theorem split_end {s b : ByteArray} {w w1 w2 : World} {v v' : Value} {k base : Nat} (hk : ¬ k < s.size) (hk2 : k ≤ s.size) (hbs : w.heap.size ≤ base)
    (hbel : Below w.heap.size w w1) (hown : w1.ownsRow base 9 1 v (scan s b k).1.length ((scan s b k).1.map .string)) {o : Obj}
    (hown' : w2.ownsRow base 9 1 v' ((scan s b k).1.length + 1) ((scan s b k).1.map .string ++ [.string (s.extract (scan s b k).2 s.size)])) (hg : (w1.alloc o).grownBy w2 v.ownBlock) : OwnS (parts s b) w (.returned v') w2 := by
  obtain rfl : k = s.size := by omega
  refine ⟨v', rfl, own_base (by simpa [parts] using hown') hbs, ?_⟩
  exact (hbel.alloc hbel.size o).grown hg (Nat.le_trans hbel.size (by simp)) (fun k hk => Nat.le_trans hbs (hown.lt k hk).1)

set_option maxHeartbeats 1000000 in
theorem splitAny_spec (s b : ByteArray) (w : World) (hs : s.size ≤ 1048576) (hb : b.size ≤ 1048576) :
    Calls Tryz.prog 9 #[.string s, .string b] w (OwnS (parts s b) w) := by
  obtain ⟨i0, hi, hz0, hz1, hz2⟩ := info_parts info_str
  go_enter Tryz.func9, Tryz.ntmps9
  go_wp2
  go_loopw [5, 6, 7] (fun out from_ i wr => ∃ k : Nat, k ≤ s.size ∧ i = .int .i64 k ∧ from_ = .int .i64 ((scan s b k).2 : Nat) ∧ wr.ownsRow w.heap.size 9 1 out (scan s b k).1.length ((scan s b k).1.map .string) ∧ Below w.heap.size w wr) (fun _ _ i _ => s.size - (intOf i).toNat)
  case atStart => exact ⟨0, Nat.zero_le _, rfl, rfl, World.ownsRow_lit _ #[] 0 (Nat.le_refl _) (by unfold maxLen; omega) rfl, (Below.refl _ _).alloc (Nat.le_refl _) _⟩
  case round =>
    obtain ⟨k, hk, rfl, hf, hown, hbel⟩ := hrel
    obtain ⟨ps, fr, hsc⟩ : ∃ ps fr, scan s b k = (ps, fr) := ⟨_, _, rfl⟩
    have hsl := scan_le s b k
    have HO := Lib.hid hown
    have HB := Lib.hid hbel
    have HSC := Lib.hid hsc
    rw [hsc] at hf hsl hown
    have HO' := Lib.hid hown
    simp only at hf hsl
    subst hf
    clear hown hbel hsc
    by_cases hlt : k < s.size
    · go_wp2
      go_loopw [5, 6, 8] (fun out from_ kk w2 => ∃ j q : Nat, j ≤ b.size ∧ kk = .int .i64 j ∧ out = u5 ∧ from_ = .int .i64 (fr : Nat) ∧ w2 = wr.drewN q ∧ (b.data.toList.take j).contains s[k] = false) (fun _ _ kk _ => b.size - (intOf kk).toNat)
      case atStart => exact ⟨0, 0, Nat.zero_le _, rfl, rfl, rfl, rfl, rfl⟩
      case round =>
        obtain ⟨j, q, hj, rfl, rfl, rfl, rfl, hno⟩ := hrel
        have HN := Lib.hid hno
        clear hno
        by_cases hjl : j < b.size
        · have HT := Lib.hid (cuts_take b s[k] j hjl)
          by_cases heq : s[k] = b[j]
          · have HE := Lib.hid heq
            have hbe : (((s[k].toNat : Nat) : Int) == ((b[j].toNat : Nat) : Int)) = true := by rw [heq]; simp
            clear heq
            go_wp2
            go_quiet (fail)
            obtain ⟨w3, hw3⟩ : ∃ w3, w3 = (wr.drewN q).drewN nq := ⟨_, rfl⟩
            have HO3 := Lib.hid (own_drewN (own_drewN HO.out q) nq)
            have HO3' := Lib.hid (own_drewN (own_drewN HO'.out q) nq)
            have HB3 := Lib.hid (below_drewN (below_drewN HB.out q) nq)
            rw [← hw3] at HO3 HB3 HO3' ⊢
            clear hw3 HO HB HO'
            have hcell : ∀ jj u, [Value.string (s.extract fr k)][jj]? = some u → (w3.alloc (.cells #[.string (s.extract fr k)] 9)).cell? ((⟨w3.heap.size, 0, none⟩ : Addr).add jj) = some u := cell_one_new _ _ _
            have HCELL := Lib.hid hcell
            clear hcell
            go_wp2_with (at_builtin; refine wpList_append_own _ rfl (.tmp 29) (.tmp 34) 32 rfl w.heap.size 9 i0 _ 1 16 Tryz.underlying32 hi hz0 hz1 hz2 rfl (by decide) u5 ps.length (ps.map .string) rfl (HO3'.out.alloc _) ⟨w3.heap.size, 0, none⟩ 1 1 [.string (s.extract fr k)] rfl rfl HCELL.out (by simp [Value.oneCell']) (by unfold maxLen; omega) (by omega) (by have := HB3.out.size; simp; omega) ?_; intro v' w4 hown' hgrow _)
            have HW := Lib.hid hown'
            have HG := Lib.hid hgrow
            clear hown' hgrow
            go_wp2
            have hc : cuts b s[k] = true := by
              have h1 : s[k] ∈ b.data.toList := by
                rw [HE.out]
                exact List.getElem_mem (l := b.data.toList) (by simpa using hjl)
              unfold cuts
              simpa using h1
            have R := split_cut (o := .cells #[.string (s.extract fr k)] 9) (v := u5) (v' := v') (w2 := w4) hlt hc (Nat.le_refl _) HB3.out HO3.out (by rw [HSC.out]; exact HW.out) HG.out
            exact ⟨⟨k + 1, by omega, by go_num, by rw [R.1]; go_num, R.2.1, R.2.2⟩, by simp [intOf]; omega⟩
          · have hbe : (((s[k].toNat : Nat) : Int) == ((b[j].toNat : Nat) : Int)) = false := by
              simp
              intro h
              exact heq (UInt8.toNat_inj.1 (by omega))
            have HE := Lib.hid heq
            clear heq
            go_wp2
            go_quiet (fail)
            go_wp2
            refine ⟨⟨j + 1, q + nq, by omega, by go_num, rfl, rfl, rfl, ?_⟩, by simp [intOf]; omega⟩
            rw [HT.out, HN.out, Bool.false_or]
            exact beq_false_of_ne HE.out
        · go_wp2
          have hc : cuts b s[k] = false := by
            have h1 := HN.out
            rwa [List.take_of_length_le (by have : b.data.toList.length = b.size := by simp
                                            omega)] at h1
          have e := split_skip hlt hc
          exact ⟨⟨k + 1, by omega, by go_num, by rw [e, HSC.out], by rw [e]; exact own_drewN HO.out q, below_drewN HB.out q⟩, by simp [intOf]; omega⟩
    · have HCELL := Lib.hid (cell_one_new wr (.string (s.extract fr s.size)) 9)
      go_wp2_with (at_builtin; refine wpList_append_own _ rfl (.tmp 38) (.tmp 42) 32 rfl w.heap.size 9 i0 _ 1 16 Tryz.underlying32 hi hz0 hz1 hz2 rfl (by decide) u5 ps.length (ps.map .string) rfl (HO'.out.alloc _) ⟨wr.heap.size, 0, none⟩ 1 1 [.string (s.extract fr s.size)] rfl rfl HCELL.out (by simp [Value.oneCell']) (by unfold maxLen; omega) (by omega) (by have := HB.out.size; simp; omega) ?_; intro v' w4 hown' hgrow _)
      have HW := Lib.hid hown'
      have HG := Lib.hid hgrow
      clear hown' hgrow
      go_wp2
      go_ret
      exact split_end (o := .cells #[.string (s.extract fr s.size)] 9) (v := u5) (k := k) hlt hk (Nat.le_refl _) HB.out HO.out (by rw [HSC.out]; exact HW.out) HG.out

end Go.Proofs.YtdilgjakodimbaaGreatDoor
