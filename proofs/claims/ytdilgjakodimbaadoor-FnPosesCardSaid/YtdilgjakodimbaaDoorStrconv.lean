/- Contracts of impl.FormatInt, impl.ParseInt and spec.ParseInt. Conditions: the listed variables of strconv hold what the program's text lays; strings of at most 2^20 bytes. -/
import Derived.Test.YtdilgjakodimbaaDoorFormat
import Derived.Test.YtdilgjakodimbaaDoorDigits
import Derived.Test.YtdilgjakodimbaaDoorShelf
import Derived.WalkSmall
import Derived.Lib.AppendIntMem
import Derived.Lib.AtoiErrMem
namespace Go.Proofs.YtdilgjakodimbaaDoor
open Go.RowKit Nu
set_option linter.unusedVariables false

/-- The three variables of strconv hold what their initialisers lay (of the two errors only that they are not nil). -/
def Laid3 (w : World) : Prop :=
  Lib.TabIs Tryd.prog w "internal/strconv.uint64pow10" .u64 Lib.pow10Tab ∧ (∃ tp p, w.var? Tryd.prog "strconv.ErrSyntax" = some #[.iface tp p]) ∧ ∃ tp p, w.var? Tryd.prog "strconv.ErrRange" = some #[.iface tp p]
/-- The table alone. -/
def Laid1 (w : World) : Prop := Lib.TabIs Tryd.prog w "internal/strconv.uint64pow10" .u64 Lib.pow10Tab
theorem var_keep {n : String} {g : Nat} {w w' : World} {cs : Array Value} (hg : Tryd.prog.globalNamed n = some g) (hb : Below w.heap.size w w') (h : w.var? Tryd.prog n = some cs) : w'.var? Tryd.prog n = some cs := by
  refine var?_below hb hg ?_ h
  unfold World.var? at h
  rw [hg] at h
  rcases Nat.lt_or_ge g w.heap.size with hlt | hge
  · exact hlt
  · simp [Array.getElem?_eq_none hge] at h
theorem gPow : Tryd.prog.globalNamed "internal/strconv.uint64pow10" = some 4 := by kernel_rfl
theorem Laid1.below {w w' : World} (h : Laid1 w) (hb : Below w.heap.size w w') : Laid1 w' := var_keep gPow hb h
theorem gSyn : Tryd.prog.globalNamed "strconv.ErrSyntax" = some 2 := by kernel_rfl
theorem gRan : Tryd.prog.globalNamed "strconv.ErrRange" = some 3 := by kernel_rfl
theorem Laid3.below {w w' : World} (h : Laid3 w) (hb : Below w.heap.size w w') : Laid3 w' := by
  obtain ⟨h1, ⟨t2, p2, h2⟩, t3, p3, h3⟩ := h
  exact ⟨var_keep gPow hb h1, ⟨t2, p2, var_keep gSyn hb h2⟩, t3, p3, var_keep gRan hb h3⟩

set_option maxHeartbeats 400000 in
theorem formatInt_impl (n : Int) (w : World) (h0 : -9223372036854775808 ≤ n) (h1 : n ≤ 9223372036854775807) (hl : Laid1 w) :
    Calls Tryd.prog 44 #[.int .i64 n] w fun e w' => e = .returned (.string (itoaB n)) ∧ Below w.heap.size w w' := by
  go_enter Tryd.func44, Tryd.ntmps44
  go_wp2_with fail
  refine (Tryd.strconv_Itoa n h0 h1 w hl).mono ?_
  rintro e w' ⟨rfl, k, os, rfl⟩
  go_wp2
  go_ret
  exact ⟨rfl, Lib.below_grow _ _ (Nat.le_refl _) _ _⟩

/-- What Atoi leaves: the number and no error where the text is a numeral; an error otherwise. -/
def AtoiOk (s : ByteArray) (w : World) (e : Ending) (w' : World) : Prop :=
  Below w.heap.size w w' ∧ ((∃ v : Int, -9223372036854775808 ≤ v ∧ v ≤ 9223372036854775807 ∧ Lib.atoiAll s.data.toList = .ok v ∧ e = .returned (.tuple #[.int .i64 v, .nilIface])) ∨
    ∃ v t p, (∀ u, Lib.atoiAll s.data.toList ≠ .ok u) ∧ e = .returned (.tuple #[.int .i64 v, .iface t p]))
theorem atoi_any (s : ByteArray) (w : World) (hs : s.size ≤ 1048576) (hl : Laid3 w) : Calls Tryd.prog 71 #[.string s] w (AtoiOk s w) := by
  obtain ⟨_, ⟨t2, p2, h2⟩, t3, p3, h3⟩ := hl
  cases h : Lib.atoiAll s.data.toList with
  | ok v =>
    refine (Tryd.strconv_Atoi_ok s (by omega) v h w).mono fun e w' ⟨he, hw⟩ => ⟨?_, .inl ⟨v, (Lib.atoiAll_bounds h).1, (Lib.atoiAll_bounds h).2, h, he⟩⟩
    rcases hw with rfl | ⟨t, rfl⟩
    · exact Below.refl _ _
    · exact Lib.bytesWorld_below _ _ _
  | «syntax» =>
    refine (Tryd.strconv_Atoi_syntax_var s (by omega) h t2 p2 w h2).mono fun e w' ⟨N, he, _, _, hb⟩ => ⟨hb, .inr ⟨_, _, _, fun u hu => ?_, he⟩⟩
    rw [h] at hu; cases hu
  | range =>
    refine (Tryd.strconv_Atoi_range_var s (by omega) h t3 p3 w h3).mono fun e w' ⟨N, he, _, _, hb⟩ => ⟨hb, .inr ⟨_, _, _, fun u hu => ?_, he⟩⟩
    rw [h] at hu; cases hu
theorem str_ne (a b : ByteArray) (h : a ≠ b) : (a.toList == b.toList) = false ∧ (a.toList != b.toList) = true := by
  have h1 : a.toList ≠ b.toList := fun e => h (by
    rw [ByteArray.toList_eq, ByteArray.toList_eq] at e
    exact bytes_ext e)
  simp [h1]
/-- What ParseInt answers. -/
def ParseRes (s : ByteArray) (e : Ending) : Prop :=
  (∃ n : Int, -9223372036854775808 ≤ n ∧ n ≤ 9223372036854775807 ∧ s = itoaB n ∧ e = .returned (.tuple #[.int .i64 n, .bool true])) ∨ (¬ IsNum s ∧ e = .returned (.tuple #[.int .i64 0, .bool false]))
/-- What ParseInt leaves. -/
def Parsed (s : ByteArray) (w : World) (e : Ending) (w' : World) : Prop := ParseRes s e ∧ Below w.heap.size w w'
theorem parsed_yes {s : ByteArray} {n : Int} {w w' : World} {e : Ending} (h0 : -9223372036854775808 ≤ n) (h1 : n ≤ 9223372036854775807) (hs : s = itoaB n) (h : Parsed s w e w') : e = .returned (.tuple #[.int .i64 n, .bool true]) ∧ Below w.heap.size w w' := by
  refine ⟨?_, h.2⟩
  rcases h.1 with ⟨m, m0, m1, hm, he⟩ | ⟨hno, _⟩
  · obtain rfl : n = m := itoaB_inj n m h0 h1 m0 m1 (hs.symm.trans hm)
    exact he
  · exact absurd ⟨n, h0, h1, hs⟩ hno
theorem parsed_no {s : ByteArray} {w w' : World} {e : Ending} (hn : ¬ IsNum s) (h : Parsed s w e w') : e = .returned (.tuple #[.int .i64 0, .bool false]) ∧ Below w.heap.size w w' := by
  refine ⟨?_, h.2⟩
  rcases h.1 with ⟨m, m0, m1, hm, he⟩ | ⟨_, he⟩
  · exact absurd ⟨m, m0, m1, hm⟩ hn
  · exact he

set_option maxHeartbeats 400000 in
theorem parseInt_impl (s : ByteArray) (w : World) (hs : s.size ≤ 1048576) (hl : Laid3 w) : Calls Tryd.prog 40 #[.string s] w (Parsed s w) := by
  have HL := Lib.hid hl
  clear hl
  go_enter Tryd.func40, Tryd.ntmps40
  go_wp2_with fail
  refine (atoi_any s w hs HL.out).mono ?_
  rintro e w1 ⟨hb, ⟨v, hv0, hv1, hok, rfl⟩ | ⟨v, t, p, hno, rfl⟩⟩
  · have HB := Lib.hid hb
    have HK := Lib.hid hok
    clear hb hok
    by_cases hse : s = itoaB v
    · subst hse
      go_wp2_with fail
      refine (formatInt_impl v w1 hv0 hv1 (HL.out.below HB.out).1).mono ?_
      rintro e w2 ⟨rfl, hb2⟩
      have HB2 := Lib.hid hb2
      clear hb2
      go_wp2
      go_ret2
      exact ⟨.inl ⟨v, hv0, hv1, rfl, rfl⟩, HB.out.trans (HB2.out.mono HB.out.size)⟩
    · have hne := str_ne (itoaB v) s (fun h => hse h.symm)
      have HN : Hid (¬ IsNum s) := by
        rintro ⟨m, hm0, hm1, rfl⟩
        have h := HK.out
        rw [itoaB_data, atoi_itoa m hm0 hm1] at h
        injection h with h
        exact hse (by rw [h])
      obtain ⟨hne1, hne2⟩ := hne
      clear hse
      go_wp2_with fail
      refine (formatInt_impl v w1 hv0 hv1 (HL.out.below HB.out).1).mono ?_
      rintro e w2 ⟨rfl, hb2⟩
      have HB2 := Lib.hid hb2
      clear hb2
      go_wp2
      go_ret2
      exact ⟨.inr ⟨HN.out, rfl⟩, HB.out.trans (HB2.out.mono HB.out.size)⟩
  · have HB := Lib.hid hb
    have HN : Hid (¬ IsNum s) := by
      rintro ⟨m, hm0, hm1, rfl⟩
      exact hno m (by rw [itoaB_data, atoi_itoa m hm0 hm1])
    clear hb hno
    go_wp2_with fail
    go_ret2
    exact ⟨.inr ⟨HN.out, rfl⟩, HB.out⟩
end Go.Proofs.YtdilgjakodimbaaDoor
