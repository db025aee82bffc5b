/- Contracts of impl.FormatInt, impl.ParseInt and spec.ParseInt. Conditions: the listed variables of strconv hold what the program's text lays; strings of at most 2^20 bytes. -/
import Derived.Test.YtbikkbamcleinaaDoorFormat
import Derived.Test.YtbikkbamcleinaaDoorDigits
import Derived.Test.YtbikkbamcleinaaDoorShelf
import Derived.WalkSmall
import Derived.Lib.AppendIntMem
import Derived.Lib.AtoiErrMem
namespace Go.Proofs.YtbikkbamcleinaaDoor
open Go.RowKit Nu
set_option linter.unusedVariables false

/-- The three variables of strconv hold what their initialisers lay (of the two errors only that they are not nil). -/
def Laid3 (w : World) : Prop :=
  Lib.TabIs Tryd.prog w "internal/strconv.uint64pow10" .u64 Lib.pow10Tab ∧ (∃ tp p, w.var? Tryd.prog "strconv.ErrSyntax" = some #[.iface tp p]) ∧ ∃ tp p, w.var? Tryd.prog "strconv.ErrRange" = some #[.iface tp p]
/-- The table alone. -/
def Laid1 (w : World) : Prop := Lib.TabIs Tryd.prog w "internal/strconv.uint64pow10" .u64 Lib.pow10Tab
theorem var_keep {n : String} {g : Nat} {w w' : World} {cs : Array Value} (hg : Tryd.prog.globalNamed n = some g) (hb : Below w.heap.size w w') (h : w.var? Tryd.prog n = some cs) : w'.var? Tryd.prog n = some cs := by
  refine var?_below hb hg ?_ h
  unfold World.var? at h
  rw [hg] at h
  rcases Nat.lt_or_ge g w.heap.size with hlt | hge
  · exact hlt
  · simp [Array.getElem?_eq_none hge] at h
theorem gPow : Tryd.prog.globalNamed "internal/strconv.uint64pow10" = some 1 := by kernel_rfl
theorem Laid1.below {w w' : World} (h : Laid1 w) (hb : Below w.heap.size w w') : Laid1 w' := var_keep gPow hb h

set_option maxHeartbeats 400000 in
theorem formatInt_impl (n : Int) (w : World) (h0 : -9223372036854775808 ≤ n) (h1 : n ≤ 9223372036854775807) (hl : Laid1 w) :
    Calls Tryd.prog 17 #[.int .i64 n] w fun e w' => e = .returned (.string (itoaB n)) ∧ Below w.heap.size w w' := by
  go_enter Tryd.func17, Tryd.ntmps17
  go_wp2_with fail
  refine (Tryd.strconv_Itoa n h0 h1 w hl).mono ?_
  rintro e w' ⟨rfl, k, os, rfl⟩
  go_wp2
  go_ret
  exact ⟨rfl, Lib.below_grow _ _ (Nat.le_refl _) _ _⟩

/-- What Atoi leaves: the number and no error where the text is a numeral; an error otherwise. -/
def AtoiOk (s : ByteArray) (w : World) (e : Ending) (w' : World) : Prop :=
  Below w.heap.size w w' ∧ ((∃ v : Int, -9223372036854775808 ≤ v ∧ v ≤ 9223372036854775807 ∧ Lib.atoiAll s.data.toList = .ok v ∧ e = .returned (.tuple #[.int .i64 v, .nilIface])) ∨
    ∃ v t p, (∀ u, Lib.atoiAll s.data.toList ≠ .ok u) ∧ e = .returned (.tuple #[.int .i64 v, .iface t p]))
theorem str_ne (a b : ByteArray) (h : a ≠ b) : (a.toList == b.toList) = false ∧ (a.toList != b.toList) = true := by
  have h1 : a.toList ≠ b.toList := fun e => h (by
    rw [ByteArray.toList_eq, ByteArray.toList_eq] at e
    exact bytes_ext e)
  simp [h1]
/-- What ParseInt answers. -/
def ParseRes (s : ByteArray) (e : Ending) : Prop :=
  (∃ n : Int, -9223372036854775808 ≤ n ∧ n ≤ 9223372036854775807 ∧ s = itoaB n ∧ e = .returned (.tuple #[.int .i64 n, .bool true])) ∨ (¬ IsNum s ∧ e = .returned (.tuple #[.int .i64 0, .bool false]))
/-- What ParseInt leaves. -/
def Parsed (s : ByteArray) (w : World) (e : Ending) (w' : World) : Prop := ParseRes s e ∧ Below w.heap.size w w'
theorem parsed_yes {s : ByteArray} {n : Int} {w w' : World} {e : Ending} (h0 : -9223372036854775808 ≤ n) (h1 : n ≤ 9223372036854775807) (hs : s = itoaB n) (h : Parsed s w e w') : e = .returned (.tuple #[.int .i64 n, .bool true]) ∧ Below w.heap.size w w' := by
  refine ⟨?_, h.2⟩
  rcases h.1 with ⟨m, m0, m1, hm, he⟩ | ⟨hno, _⟩
  · obtain rfl : n = m := itoaB_inj n m h0 h1 m0 m1 (hs.symm.trans hm)
    exact he
  · exact absurd ⟨n, h0, h1, hs⟩ hno
theorem parsed_no {s : ByteArray} {w w' : World} {e : Ending} (hn : ¬ IsNum s) (h : Parsed s w e w') : e = .returned (.tuple #[.int .i64 0, .bool false]) ∧ Below w.heap.size w w' := by
  refine ⟨?_, h.2⟩
  rcases h.1 with ⟨m, m0, m1, hm, he⟩ | ⟨_, he⟩
  · exact absurd ⟨m, m0, m1, hm⟩ hn
  · exact he

end Go.Proofs.YtbikkbamcleinaaDoor
