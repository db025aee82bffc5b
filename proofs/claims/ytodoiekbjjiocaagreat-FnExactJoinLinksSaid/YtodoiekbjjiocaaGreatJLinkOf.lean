/- LinkOf of both sides. Conditions: none. -/
import Derived.Test.YtodoiekbjjiocaaGreatJPk
import Derived.Test.YtodoiekbjjiocaaGreatJLkCopy
import Derived.Test.YtodoiekbjjiocaaGreatJGraphSet
import Derived.Test.YtodoiekbjjiocaaGreatJIsSetS
namespace Go.Proofs.YtodoiekbjjiocaaGreat
open Go.RowKit Nt Fr
set_option linter.unusedVariables false
structure Dt where
 A : Int
 B : Int
 P : Fr
 Q : Fr
 R : Fr
def Lr.d (z : Lr) : Dt:=⟨z.A,z.B,z.P,z.Q,z.R⟩
def dts (zs : List Lr) : List Dt:=zs.map Lr.d
theorem like_d {y z : Lr} (h : y.like z) : y.d = z.d:=by obtain ⟨h1,h2,h3,h4,h5⟩:=h; simp [Lr.d,h1,h2,h3,h4,h5]
theorem d_like {y z : Lr} (h : y.d = z.d) : y.like z:=by simp only [Lr.d,Dt.mk.injEq] at h; exact h
theorem dts_like {ys zs : List Lr} {n : Nat} (hy : ys.length = n) (hz : zs.length = n) (h : ∀ (i : Nat) (y z : Lr),ys[i]? = some y → zs[i]? = some z → y.like z) : dts ys = dts zs:=by
 apply List.ext_getElem (by simp [dts]; omega)
 intro i h1 h2
 simp only [dts,List.length_map] at h1 h2
 simp only [dts,List.getElem_map]
 exact like_d (h i _ _ (List.getElem?_eq_getElem h1) (List.getElem?_eq_getElem h2))
theorem like_dts {ys zs : List Lr} (h : dts ys = dts zs) : ∀ (i : Nat) (y z : Lr),ys[i]? = some y → zs[i]? = some z → y.like z:=by
 intro i y z hy hz
 have h1 : (dts ys)[i]? = some y.d:=by simp [dts,hy]
 have h2 : (dts zs)[i]? = some z.d:=by simp [dts,hz]
 rw [h,h2] at h1
 exact d_like (Option.some.inj h1).symm
theorem dts_at {zs : List Lr} {k : Nat} {z : Lr} (h : zs[k]? = some z) : (dts zs)[k]? = some z.d:=by simp [dts,h]
def hit (a b : Int) (d : Dt) : Bool:=decide ((d.A = a ∧ d.B = b) ∨ (d.A = b ∧ d.B = a))
end Go.Proofs.YtodoiekbjjiocaaGreat
