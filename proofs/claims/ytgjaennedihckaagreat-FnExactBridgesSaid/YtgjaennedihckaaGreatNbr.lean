/- NeighborsOf of both sides. Conditions: none. -/
import Derived.Test.YtgjaennedihckaaGreatGraphI
import Derived.Test.YtgjaennedihckaaGreatPut
import Derived.Test.YtgjaennedihckaaGreatIsSetS
namespace Go.Proofs.YtgjaennedihckaaGreat
open Go.RowKit Nt Fr
set_option linter.unusedVariables false

/-- The neighbors. -/
def nbrs (zs : List Lr) (v : Int) : List Int := if okSet zs = true then Gr.nearP (eds zs) v else []
theorem nbrs_like {ys zs : List Lr} {n : Nat} {v : Int} (hy : ys.length = n) (hz : zs.length = n) (h : ∀ (i : Nat) (y z : Lr), ys[i]? = some y → zs[i]? = some z → y.like z) : nbrs ys v = nbrs zs v := by
  unfold nbrs; rw [okSet_like hy hz h, eds_like hy hz h]
theorem nbrs_len {zs : List Lr} {v : Int} (h : zs.length ≤ 1048576) : (nbrs zs v).length ≤ 4194304 := by
  unfold nbrs
  split
  · have := nearK_len (zs := zs) v zs.length
    rw [nearK_all rfl] at this
    omega
  · simp
theorem lensL_like {ys zs : List Lr} {n : Nat} (hy : ys.length = n) (hz : zs.length = n) (h : ∀ (i : Nat) (y z : Lr), ys[i]? = some y → zs[i]? = some z → y.like z) : lensL ys = lensL zs := by
  induction ys generalizing zs n with
  | nil => simp at hy; subst hy; rw [List.eq_nil_of_length_eq_zero hz]
  | cons y r ih =>
    cases zs with
    | nil => simp at hy hz; omega
    | cons z s =>
      simp only [List.length_cons] at hy hz
      have h0 := like_rows_len (h 0 y z rfl rfl)
      have := ih (zs := s) (n := r.length) rfl (by omega) (fun i a b ha hb => h (i + 1) a b ha hb)
      simp only [lensL]; omega
end Go.Proofs.YtgjaennedihckaaGreat
