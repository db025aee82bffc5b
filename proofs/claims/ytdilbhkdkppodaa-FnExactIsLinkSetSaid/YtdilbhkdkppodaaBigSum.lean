/- Big integers: BigIntNeg, BigIntAdd and BigIntSub of the program. Conditions: none. -/
import Derived.Test.YtdilbhkdkppodaaProg
import Derived.Test.YtdilbhkdkppodaaBigMake
namespace Go.Proofs.Ytdilbhkdkppodaa
open Go.RowKit Nt
set_option linter.unusedVariables false

theorem OwnV.same {w : World} {base : Nat} {e : TypeId} {v : Value} {xs ys : List Value} (h : OwnV w base e v xs) (he : xs = ys) : OwnV w base e v ys := he ▸ h
theorem capd_ok {s : Bool} {xs : List Int} (h : okB s xs = true) : capd (val (toN xs)) = toN xs := by
  rw [capd_of (okB_val h)]
  exact dig_of_can (okI_nats (okB_ok h)).2.1
theorem OwnV.of_whole_n {w : World} {base g n : Nat} {e : TypeId} {ys : List Value} (h : Whole w base g e ys) (hl : ys.length = n) : OwnV w base e (.slice (some ⟨g, 0, none⟩) n n) ys := by subst hl; exact OwnV.of_whole h
end Go.Proofs.Ytdilbhkdkppodaa
