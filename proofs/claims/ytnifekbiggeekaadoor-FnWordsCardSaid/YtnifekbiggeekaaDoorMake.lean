/- Contracts of the laws' draws l01Str, MakeNum and MakeText. -/
import Derived.Test.YtnifekbiggeekaaDoorCursor
namespace Go.Proofs.YtnifekbiggeekaaDoor
open Go.RowKit
set_option linter.unusedVariables false

/-- What l01Str leaves: one of the strings, and the cursor again. -/
def DrawnS (B : Nat) (zs : List Int) (A : Option Addr) (n c g : Nat) (xs : List ByteArray) (w : World) (e : Ending) (w' : World) : Prop :=
  ∃ t, e = .returned (.string t) ∧ t ∈ xs ∧ CurAt B zs A n c g w' ∧ w.grownBy w' (some g)

set_option maxHeartbeats 400000 in
theorem l01Str_any (B : Nat) (zs : List Int) (A : Option Addr) (n c g : Nat) (L m cap : Nat) (xs : List ByteArray) (w : World) (hm0 : 0 < m) (hm1 : m ≤ 256) (hc : CurAt B zs A n c g w) (hx : VRow w (some ⟨L, 0, none⟩) m (xs.map .string)) (hL : L ≠ g) :
    Calls Tryd.prog 22 #[.pointer (some ⟨g, 0, none⟩), .slice (some ⟨L, 0, none⟩) m cap] w (DrawnS B zs A n c g xs w) := by
  have HC := Lib.hid hc
  have HX := Lib.hid hx
  have HL := Lib.hid (show xs.length = m by simpa using hx.1)
  clear hc hx
  go_enter Tryd.func22, Tryd.ntmps22
  go_wp2_with fail
  refine (l01Below_any B zs A n c g _ _ (by omega) (by omega) HC.out).mono ?_
  rintro e w1 ⟨x, rfl, hx0, hx1, hc1, hg1⟩
  have HC1 := Lib.hid hc1
  have HG1 := Lib.hid hg1
  obtain ⟨k, rfl⟩ : ∃ k : Nat, x = (k : Int) := ⟨x.toNat, by omega⟩
  have hk : k < m := by omega
  obtain ⟨g1, o1, hgo, _, hcell⟩ := (HX.out.grown hg1 (fun a ha => by injection ha with ha; subst ha; intro e; exact hL (by simpa using e))).at_ hk
  obtain ⟨rfl, rfl⟩ : L = g1 ∧ 0 = o1 := by simpa using hgo
  simp only [Nat.zero_add, List.getElem_map] at hcell
  have hkx : k < xs.length := by have := HL.out; omega
  have HM := Lib.hid (List.getElem_mem hkx)
  obtain ⟨t, ht⟩ : ∃ t, xs[k] = t := ⟨_, rfl⟩
  rw [ht] at hcell HM
  clear ht hgo hc1
  have HG := Lib.hid hg1
  go_wp2
  go_ret
  exact ⟨t, rfl, HM.out, HC1.out, HG1.out⟩

/-- What MakeNum leaves. -/
def MadeNum (hi : Int) (w : World) (e : Ending) (w' : World) : Prop := ∃ x : Int, e = .returned (.int .i64 x) ∧ 0 ≤ x ∧ x ≤ hi ∧ Below w.heap.size w w'
set_option maxHeartbeats 400000 in
theorem makeNum_any (zs : List Int) (A : Option Addr) (n c : Nat) (m : Int) (w : World) (hm0 : 0 ≤ m) (hm1 : m ≤ 1048576) (hA : VRow w A n (zs.map (.int .u8))) (hn : n ≤ 1048576) (hz : ∀ z ∈ zs, 0 ≤ z ∧ z ≤ 255) :
    Calls Tryd.prog 6 #[.slice A n c, .int .i64 m] w (MadeNum 65535 w) := by
  have HA := Lib.hid hA
  have HZ := Lib.hid hz
  clear hz hA
  go_enter Tryd.func6, Tryd.ntmps6
  go_wp2_with fail
  refine (l32New_any zs A n c m w hm0 hm1 HA.out hn HZ.out).mono ?_
  rintro e w1 ⟨g, rfl, hc1, hb1⟩
  have HC1 := Lib.hid hc1
  have HB1 := Lib.hid hb1
  clear hc1 hb1
  go_wp2_with fail
  refine (l01Byte_any _ zs A n c g _ HC1.out).mono ?_
  rintro e w2 ⟨x, rfl, hx0, hx1, hc2, hg2⟩
  have HC2 := Lib.hid hc2
  have HB2 := Lib.hid (HB1.out.grown hg2 HB1.out.size (fun j hj => by injection hj with hj; rw [← hj]; exact HC1.out.ge))
  clear hc2 hg2
  go_wp2_with fail
  refine (l01Byte_any _ zs A n c g _ HC2.out).mono ?_
  rintro e w3 ⟨y, rfl, hy0, hy1, hc3, hg3⟩
  have HB3 := Lib.hid (HB2.out.grown hg3 HB2.out.size (fun j hj => by injection hj with hj; rw [← hj]; exact HC1.out.ge))
  clear hc3 hg3
  go_wp2
  go_ret
  exact ⟨_, rfl, by omega, by omega, HB3.out⟩
/-- What MakeText leaves. -/
def MadeText (w : World) (e : Ending) (w' : World) : Prop := ∃ s : ByteArray, e = .returned (.string s) ∧ s.size ≤ 14 ∧ Below w.heap.size w w'
set_option maxHeartbeats 400000 in
theorem makeText_any (zs : List Int) (A : Option Addr) (n c : Nat) (w : World) (hA : VRow w A n (zs.map (.int .u8))) (hn : n ≤ 1048576) (hz : ∀ z ∈ zs, 0 ≤ z ∧ z ≤ 255) :
    Calls Tryd.prog 9 #[.slice A n c] w (MadeText w) := by
  have HA := Lib.hid hA
  have HZ := Lib.hid hz
  clear hz hA
  go_enter Tryd.func9, Tryd.ntmps9
  go_wp2_with fail
  refine (l01New_any zs A n c w HA.out hn HZ.out).mono ?_
  rintro e w1 ⟨g, rfl, hc1, hb1⟩
  have HC1 := Lib.hid hc1
  have HB1 := Lib.hid hb1
  clear hc1 hb1
  go_wp2_with fail
  refine (l01Below_any _ zs A n c g _ _ (by omega) (by omega) HC1.out).mono ?_
  rintro e w2 ⟨x, rfl, hx0, hx1, hc2, hg2⟩
  have HC2 := Lib.hid hc2
  have HB2 := Lib.hid (HB1.out.grown hg2 HB1.out.size (fun j hj => by injection hj with hj; rw [← hj]; exact HC1.out.ge))
  obtain ⟨m, rfl⟩ : ∃ k : Nat, x = (k : Int) := ⟨x.toNat, by omega⟩
  have hm7 : m ≤ 7 := by omega
  clear hc2 hg2 hx0 hx1
  go_wp2
  go_loopw [4, 5] (fun s i wr => ∃ (k : Nat) (t : ByteArray), k ≤ m ∧ i = .int .i64 k ∧ s = .string t ∧ t.size ≤ 2 * (m - k) ∧ CurAt w.heap.size zs A n c g wr ∧ Below w.heap.size w wr) (fun _ i _ => (intOf i).toNat)
  case atStart => exact ⟨m, _, Nat.le_refl _, rfl, rfl, by show 0 ≤ _; omega, HC2.out, HB2.out⟩
  case round =>
    obtain ⟨k, t, hk, rfl, rfl, hts, hc, hb⟩ := hrel
    have HC := Lib.hid hc
    have HB := Lib.hid hb
    have htl : t.size ≤ 14 := by omega
    have HT := Lib.hid hts
    clear hc hb hts
    by_cases hlt : 0 < k
    · have hgl := HC.out.lt
      have HV := Lib.hid (vrow_new wr [.string ⟨#[97]⟩, .string ⟨#[98, 99]⟩, .string ⟨#[32]⟩, .string ⟨#[44]⟩, .string ⟨#[120, 49]⟩] 9)
      have HCA := Lib.hid (HC.out.alloc (.cells #[.string ⟨#[97]⟩, .string ⟨#[98, 99]⟩, .string ⟨#[32]⟩, .string ⟨#[44]⟩, .string ⟨#[120, 49]⟩] 9))
      go_wp2_with fail
      refine (l01Str_any w.heap.size zs A n c g wr.heap.size 5 5 [⟨#[97]⟩, ⟨#[98, 99]⟩, ⟨#[32]⟩, ⟨#[44]⟩, ⟨#[120, 49]⟩] _ (by omega) (by omega) HCA.out HV.out (by omega)).mono ?_
      rintro e w3 ⟨u, rfl, hu, hc3, hg3⟩
      have hus : u.size ≤ 2 := by
        simp only [List.mem_cons, List.not_mem_nil, or_false] at hu
        rcases hu with rfl | rfl | rfl | rfl | rfl <;> decide
      have HC3 := Lib.hid hc3
      have HBA := Lib.hid (HB.out.alloc HB.out.size (.cells #[.string ⟨#[97]⟩, .string ⟨#[98, 99]⟩, .string ⟨#[32]⟩, .string ⟨#[44]⟩, .string ⟨#[120, 49]⟩] 9))
      have HB3 := Lib.hid (HBA.out.grown hg3 HBA.out.size (fun j hj => by injection hj with hj; rw [← hj]; exact HC.out.ge))
      clear hu hc3 hg3
      go_wp2
      refine ⟨⟨k - 1, _, by omega, by go_num, rfl, ?_, HC3.out, HB3.out⟩, by simp [intOf]; omega⟩
      rw [ByteArray.size_append]
      have := HT.out
      omega
    · go_wp2
      go_ret
      exact ⟨t, rfl, htl, HB.out⟩
end Go.Proofs.YtnifekbiggeekaaDoor
