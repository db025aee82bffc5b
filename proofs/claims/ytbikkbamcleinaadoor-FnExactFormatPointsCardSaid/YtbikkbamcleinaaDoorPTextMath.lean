/- The text of points. Conditions: none. -/
import Derived.Test.YtbikkbamcleinaaDoorRatText
import Derived.Test.YtbikkbamcleinaaDoorLkText
import Derived.Test.YtbikkbamcleinaaDoorRecPoint
import Derived.Test.YtbikkbamcleinaaDoorJoinW
namespace Go.Proofs.YtbikkbamcleinaaDoor
open Go.RowKit Nt Fr Nu Jn
set_option linter.unusedVariables false

def fpX (d : List Int × List Fr) : Fr := d.2.headD ⟨false, [], []⟩
def fpY (d : List Int × List Fr) : Fr := (d.2.drop 1).headD ⟨false, [], []⟩
def fpTxt (i : Nat) (X Y : Fr) : ByteArray := itoaB i ++ ⟨#[61]⟩ ++ X.txt ++ ⟨#[44]⟩ ++ Y.txt
def fpOk (d : List Int × List Fr) : Bool := (fpX d).ok && (fpY d).ok
/-- The words, from the index i on. -/
def fpWords : Nat → List (List Int × List Fr) → List ByteArray
  | _, [] => []
  | i, d :: r => (if fpOk d = true then [fpTxt i (fpX d) (fpY d)] else []) ++ fpWords (i + 1) r
/-- What FormatPoints answers. -/
def fmtPts (ds : List (List Int × List Fr)) : ByteArray := join ⟨#[32]⟩ (fpWords 0 ds)
theorem fpWords_snoc (l : List (List Int × List Fr)) (d : List Int × List Fr) : ∀ i, fpWords i (l ++ [d]) = fpWords i l ++ (if fpOk d = true then [fpTxt (i + l.length) (fpX d) (fpY d)] else []) := by
  induction l with
  | nil => intro i; simp [fpWords]
  | cons x r ih =>
    intro i
    rw [List.cons_append, fpWords, ih, fpWords, List.append_assoc, List.length_cons, show i + 1 + r.length = i + (r.length + 1) by omega]
theorem fpWords_step {ds : List (List Int × List Fr)} {k : Nat} {d : List Int × List Fr} (h : ds[k]? = some d) : fpWords 0 (ds.take (k + 1)) = fpWords 0 (ds.take k) ++ (if fpOk d = true then [fpTxt k (fpX d) (fpY d)] else []) := by
  obtain ⟨hk, e2⟩ := List.getElem?_eq_some_iff.mp h
  rw [List.take_succ_eq_append_getElem hk, e2, fpWords_snoc, List.length_take, Nat.min_eq_left (by omega), Nat.zero_add]
theorem ptxt_size (F : Fr) : F.txt.size ≤ 1202 := fmtR_size _ _ _
theorem pone_byte (b : UInt8) : (⟨#[b]⟩ : ByteArray).size = 1 := rfl
theorem fpTxt_size (i : Nat) (X Y : Fr) (hi : i ≤ 1048576) : (fpTxt i X Y).size ≤ 2426 := by
  have h1 := itoa_len (i : Int) (by omega) (by omega)
  have h2 := ptxt_size X
  have h3 := ptxt_size Y
  simp only [fpTxt, ByteArray.size_append, pone_byte]
  omega
theorem fpWords_len (ds : List (List Int × List Fr)) (k : Nat) : (fpWords 0 (ds.take k)).length ≤ k := by
  induction k with
  | zero => simp [fpWords]
  | succ k ih =>
    cases e : ds[k]? with
    | none =>
      have hl : ds.length ≤ k := List.getElem?_eq_none_iff.mp e
      have e1 : ds.take (k + 1) = ds.take k := by rw [List.take_of_length_le hl, List.take_of_length_le (by omega)]
      rw [e1]; omega
    | some d =>
      rw [fpWords_step e, List.length_append]
      split <;> simp <;> omega
theorem fpWords_total (ds : List (List Int × List Fr)) (k : Nat) (hk : k ≤ 1048576) : total (fpWords 0 (ds.take k)) ≤ 2426 * k := by
  induction k with
  | zero => simp [fpWords, total]
  | succ k ih =>
    have ih := ih (by omega)
    cases e : ds[k]? with
    | none =>
      have hl : ds.length ≤ k := List.getElem?_eq_none_iff.mp e
      have e1 : ds.take (k + 1) = ds.take k := by rw [List.take_of_length_le hl, List.take_of_length_le (by omega)]
      rw [e1]; omega
    | some d =>
      rw [fpWords_step e]
      split
      · rw [total_snoc]
        have := fpTxt_size k (fpX d) (fpY d) (by omega)
        omega
      · rw [List.append_nil]; omega
theorem fmtPts_all {ds : List (List Int × List Fr)} {n : Nat} (h : ds.length = n) : join ⟨#[32]⟩ (fpWords 0 (ds.take n)) = fmtPts ds := by rw [List.take_of_length_le (by omega)]; rfl
-- a number's text is not empty
theorem dec_some (u : Nat) : Lib.decDigits u ≠ [] := by
  unfold Lib.decDigits
  split <;> simp
theorem itoa_some (n : Int) : Lib.itoa n ≠ [] := by
  unfold Lib.itoa
  split
  · simp
  · exact dec_some _
theorem bytes_some {l : List UInt8} (h : l ≠ []) : (⟨l.toArray⟩ : ByteArray).size ≠ 0 := by
  intro e
  apply h
  have : l.toArray.size = 0 := e
  simpa using this
theorem natText_some (ds : List Nat) : (natText ds).size ≠ 0 := by
  unfold natText
  split
  · decide
  · exact bytes_some (by simp [itoa_some])
theorem txt_some {F : Fr} (h : F.ok = true) : F.txt.size ≠ 0 := by
  have h' : okR F.s F.xs F.ys = true := h
  have hb : (fmtB F.s F.xs).size ≠ 0 := by
    have hB : okB F.s F.xs = true := by
      unfold okR at h'
      simp only [Bool.and_eq_true] at h'
      exact h'.1.1.1.1.1
    have hI : okI F.xs = true := by
      unfold okB at hB
      simp only [Bool.and_eq_true] at hB
      exact hB.1
    have hn : (fmtN F.xs).size ≠ 0 := by unfold fmtN; rw [if_pos hI]; exact natText_some _
    unfold fmtB
    rw [if_pos hB]
    split
    · rw [ByteArray.size_append]; omega
    · exact hn
  unfold Fr.txt fmtR
  rw [if_pos h']
  split
  · exact hb
  · rw [ByteArray.size_append, ByteArray.size_append]; omega
theorem txt_none {F : Fr} (h : F.ok = false) : F.txt = ⟨#[]⟩ := fmtR_no h
theorem txt_ne {F : Fr} (h : F.ok = true) : F.txt ≠ ⟨#[]⟩ := fun e => txt_some h (by rw [e]; rfl)
end Go.Proofs.YtbikkbamcleinaaDoor
