/- FormatLink of the model and of the program. Conditions: none. -/
import Derived.Test.YtbikkbamcleinaaDoorLkBase
import Derived.Test.YtbikkbamcleinaaDoorRatText
import Derived.Test.YtbikkbamcleinaaDoorJoinImpl
import Derived.Test.YtbikkbamcleinaaDoorStrconv
namespace Go.Proofs.YtbikkbamcleinaaDoor
open Go.RowKit Nt Fr Nu Jn
set_option linter.unusedVariables false

/-- The text of a fraction, in one word. -/
def Fr.txt (F : Fr) : ByteArray := fmtR F.s F.xs F.ys
theorem fmtR_size (s : Bool) (xs ys : List Int) : (fmtR s xs ys).size ≤ 1202 := by
  have h1 := fmtB_size s xs
  have h2 := fmtN_size ys
  unfold fmtR
  split
  · split
    · omega
    · rw [ByteArray.size_append, ByteArray.size_append]
      have : (⟨#[47]⟩ : ByteArray).size = 1 := rfl
      omega
  · exact Nat.zero_le _
/-- What FormatLink answers. -/
def fmtK (A B : Int) (P Q R : Fr) : ByteArray := if okK A B P Q R = true then itoaB A ++ ⟨#[45]⟩ ++ itoaB B ++ ⟨#[32]⟩ ++ P.txt ++ ⟨#[32]⟩ ++ Q.txt ++ ⟨#[32]⟩ ++ R.txt else ⟨#[]⟩
theorem fmtK_no {A B : Int} {P Q R : Fr} (h : okK A B P Q R = false) : fmtK A B P Q R = ⟨#[]⟩ := by simp [fmtK, h]
theorem fmtK_yes {A B : Int} {P Q R : Fr} {ta tb tp tq tr : ByteArray} (h : okK A B P Q R = true) (h1 : itoaB A = ta) (h2 : itoaB B = tb) (h3 : P.txt = tp) (h4 : Q.txt = tq) (h5 : R.txt = tr) : fmtK A B P Q R = ta ++ ⟨#[45]⟩ ++ tb ++ ⟨#[32]⟩ ++ tp ++ ⟨#[32]⟩ ++ tq ++ ⟨#[32]⟩ ++ tr := by
  unfold fmtK; rw [if_pos h, h1, h2, h3, h4, h5]
theorem join2 (b x y : ByteArray) : join b [x, y] = x ++ b ++ y := by
  apply bytes_ext
  simp [join, joinL]
theorem join4 (b x y z u : ByteArray) : join b [x, y, z, u] = x ++ b ++ y ++ b ++ z ++ b ++ u := by
  apply bytes_ext
  simp [join, joinL]
theorem vrow2 (u : World) (a b : ByteArray) (t : TypeId) : VRow (u.alloc (.cells #[.string a, .string b] t)) (some ⟨u.heap.size, 0, none⟩) 2 ([a, b].map .string) := by
  refine ⟨rfl, fun _ => ⟨u.heap.size, 0, rfl, by simp, fun j hj => ?_⟩⟩
  match j, hj with
  | 0, _ => simp
  | 1, _ => simp
theorem vrow4 (u : World) (a b c d : ByteArray) (t : TypeId) : VRow (u.alloc (.cells #[.string a, .string b, .string c, .string d] t)) (some ⟨u.heap.size, 0, none⟩) 4 ([a, b, c, d].map .string) := by
  refine ⟨rfl, fun _ => ⟨u.heap.size, 0, rfl, by simp, fun j hj => ?_⟩⟩
  match j, hj with
  | 0, _ => simp
  | 1, _ => simp
  | 2, _ => simp
  | 3, _ => simp
theorem formatRat_s (F : Fr) (a b : Value) (w : World) (h1 : FrA w F a b) :
    Calls Tryd.prog 12 #[.agg #[.bool F.s, a, b]] w fun e w' => e = .returned (.string F.txt) ∧ Below w.heap.size w w' := by
  obtain ⟨⟨A, n, k, rfl, hA⟩, ⟨B, m, l, rfl, hB⟩⟩ := h1
  exact formatRat_spec F.s A n k F.xs B m l F.ys w hA hB
theorem formatRat_i (F : Fr) (a b : Value) (w : World) (h1 : FrA w F a b) (hl : Laid1 w) :
    Calls Tryd.prog 15 #[.agg #[.bool F.s, a, b]] w fun e w' => e = .returned (.string F.txt) ∧ Below w.heap.size w w' := by
  obtain ⟨⟨A, n, k, rfl, hA⟩, ⟨B, m, l, rfl, hB⟩⟩ := h1
  exact formatRat_impl F.s A n k F.xs B m l F.ys w hA hB hl
end Go.Proofs.YtbikkbamcleinaaDoor
