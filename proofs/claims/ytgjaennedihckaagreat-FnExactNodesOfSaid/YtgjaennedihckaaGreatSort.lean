/- The library's sort and look-up over rows of integers. Conditions: none. -/
import Derived.Test.YtgjaennedihckaaGreatShelf2
import Derived.Test.YtgjaennedihckaaGreatPut
import Derived.Sort.OwnSortedInts
namespace Go.Proofs.YtgjaennedihckaaGreat
open Go.RowKit
set_option linter.unusedVariables false

/-- In ascending order. -/
def sortI (l : List Int) : List Int := l.mergeSort fun x y => decide (x ≤ y)
theorem sortI_mem {l : List Int} {x : Int} : x ∈ sortI l ↔ x ∈ l := List.mem_mergeSort
theorem sortI_len (l : List Int) : (sortI l).length = l.length := List.length_mergeSort _
theorem sortI_asc {l : List Int} (h : l.Nodup) : Gr.Asc (sortI l) := by
  have hp : (sortI l).Pairwise fun a b => decide (a ≤ b) = true := List.pairwise_mergeSort (fun a b c h1 h2 => by simp at *; omega) (fun a b => by simp; omega) l
  have hn : (sortI l).Nodup := (List.mergeSort_perm l _).nodup_iff.mpr h
  refine (List.Pairwise.and hp hn).imp (fun {a b} h => ?_)
  have h1 := of_decide_eq_true h.1
  have h2 := h.2
  omega
theorem sortInts_f (v : Value) (zs : List Int) (w : World) (base : Nat) (hv : w.ownsRow base 3 1 v zs.length (ints zs)) (hl : zs.length ≤ 1099511627776) :
    Calls Tryz.prog 85 #[v] w fun e w' => e = .returned (.tuple #[]) ∧ w'.ownsRow base 3 1 v zs.length (ints (sortI zs)) ∧ w.grownBy w' v.ownBlock := by
  rcases hv.2 with ⟨rfl, h0⟩ | ⟨g, cap, cur, rfl, hbase, hb, h1, h2, h3, h4⟩
  · refine (Tryz.slices_Sort_int_none none 0 w).mono ?_
    rintro e w' ⟨rfl, rfl⟩
    obtain rfl : zs = [] := List.eq_nil_of_length_eq_zero h0
    exact ⟨rfl, by simpa [sortI] using hv, World.grownBy.refl _ _⟩
  · have hH : Go.Sort.Holds (Value.int .i64) w g 0 zs.toArray := holds_of_blockI hb (by simpa [ints] using h4)
    refine (Tryz.slices_Sort_int g 0 cap zs w hH (Array.getElem?_eq_some_iff.1 hb).1 (by omega)).mono ?_
    rintro e w' ⟨rfl, n, os, rfl⟩
    exact ⟨rfl, ownsRow_sortedI (ss := zs) (sortI_len zs) hbase hb h1 h2 h3, grownBy_sortedI _⟩
theorem containsInts_f (A : Option Addr) (n c : Nat) (zs : List Int) (x : Int) (w : World) (hA : VRow w A n (ints zs)) (hl : n ≤ 1099511627776) :
    Calls Tryz.prog 59 #[.slice A n c, .int .i64 x] w fun e w' => e = .returned (.bool (zs.contains x)) ∧ w' = w := by
  have hn : zs.length = n := by have := hA.1; rw [ints_len] at this; exact this
  rcases Nat.eq_zero_or_pos n with h0 | h0
  · subst h0
    obtain rfl : zs = [] := List.eq_nil_of_length_eq_zero hn
    exact Tryz.slices_Contains_int_empty A c x w
  · obtain ⟨g, o, rfl, hg, hc⟩ := hA.2 h0
    have := Tryz.slices_Contains_int g o n c zs x w (by omega) (by omega) (fun j hj => by
      rw [hc j (by omega)]
      simp [ints, hj])
    rw [List.take_of_length_le (by omega)] at this
    exact this
end Go.Proofs.YtgjaennedihckaaGreat
