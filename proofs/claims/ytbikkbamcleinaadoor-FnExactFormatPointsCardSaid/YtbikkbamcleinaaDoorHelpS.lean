/- Contracts of the laws' own helpers over strings: markText, eqStringS, markStringS, heldStringS. -/
import Derived.Test.YtbikkbamcleinaaDoorProg
import Derived.Test.YtbikkbamcleinaaDoorB1
namespace Go.Proofs.YtbikkbamcleinaaDoor
open Go.RowKit
set_option linter.unusedVariables false

theorem info_str : (Tryd.prog.info? 9).map (fun i => (i.zero, i.size, i.bytes)) = some (some (.string ⟨#[]⟩), 1, 16) := by kernel_rfl

/-- What a function leaves that returns the strings xs in new memory: nothing old has turned. -/
def OwnS (xs : List ByteArray) (w : World) (e : Ending) (w' : World) : Prop :=
  ∃ v, e = .returned v ∧ w'.ownsRow w.heap.size 9 1 v xs.length (xs.map .string) ∧ Below w.heap.size w w'

/-- The decimal digits of k, as markText spells them (none for 0). -/
def mdig (k : Nat) : List UInt8 := if h : k = 0 then [] else mdig (k / 10) ++ [UInt8.ofNat (48 + k % 10)]
termination_by k
decreasing_by omega
/-- What markText answers for a positive k. -/
def mtext (k : Nat) : ByteArray := ⟨(109 :: mdig k).toArray⟩

theorem mdig_len (k : Nat) : (mdig k).length ≤ k := by
  induction k using Nat.strongRecOn with
  | _ k ih =>
    rw [mdig]
    split
    · simp
    · have := ih (k / 10) (by omega)
      simp; omega
theorem mdig_step (m : Nat) (h : 0 < m) : mdig m = mdig (m / 10) ++ [UInt8.ofNat (48 + m % 10)] := by
  rw [mdig, dif_neg (by omega)]
theorem mdig_zero : mdig 0 = [] := by rw [mdig, dif_pos rfl]

/-- The marks k, k + 1, .. of n strings. -/
def marksS (k n : Nat) : List Value := (List.range n).map fun i => Value.string (mtext (k + i))

end Go.Proofs.YtbikkbamcleinaaDoor
