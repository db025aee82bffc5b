/- Matrices: how the laws' matrices are read. Conditions: none. -/
import Derived.Test.YtdchhkpkkfjibaaIsMat
namespace Go.Proofs.Ytdchhkpkkfjibaa
open Go.RowKit Nt Fr
set_option linter.unusedVariables false

theorem datm_mr {ys : List Yr} : datm (ys.map Yr.mr) = datY ys := by simp [datm, datY, Yr.mr, Function.comp_def]
theorem mr_small {ys : List Yr} (h : ∀ y ∈ ys, y.2.length ≤ 1048576) : ∀ m ∈ ys.map Yr.mr, m.n ≤ 1048576 := by
  intro m hm
  obtain ⟨y, hy, rfl⟩ := List.mem_map.mp hm
  exact h y hy
theorem rows_small {w : World} {A : Option Addr} {n : Nat} {ys : List Yr} {ms : List Mr} (hA : MRow w A n ms) (h : datY ys = datm ms) (hb : lensM ms ≤ 1048576) : ∀ y ∈ ys, y.2.length ≤ 1048576 := by
  intro y hy
  obtain ⟨i, hi⟩ := List.mem_iff_getElem?.mp hy
  have h1 : (datY ys)[i]? = some (dats y.2) := by simp [datY, hi]
  rw [h] at h1
  cases hm : ms[i]? with
  | none => simp [datm, hm] at h1
  | some m =>
    have e : dats m.zs = dats y.2 := by simpa [datm, hm] using h1
    have h2 := lenM_le hm
    have h3 := (hA.rd m (List.mem_of_getElem? hm)).1.len
    have h4 := congrArg List.length e
    rw [dats_len, dats_len] at h4
    simp only [Mr.len] at h2
    omega
theorem St.marg {w0 w : World} {bs : List (Nat × List Value)} {cs : List Chunk} {b : Nat} {ys : List Yr} (h : St w0 w bs cs) (hb : (b, ys.map Yr.val) ∈ bs) (hbs : ∀ y ∈ ys, blkY y ∈ bs) (hcs : ∀ y ∈ ys, chkY y ∈ cs) (hsh : shY ys) (hmx : ∀ y ∈ ys, y.2.length ≤ maxLen) : MArg w (some ⟨b, 0, none⟩) ys.length (ys.map Yr.mr) := by
  refine ⟨h.mrow hb hbs hcs hsh hmx, fun m hm => ?_⟩
  obtain ⟨y, hy, rfl⟩ := List.mem_map.mp hm
  exact rowsR_ra (h.row _ (hcs y hy))
end Go.Proofs.Ytdchhkpkkfjibaa
