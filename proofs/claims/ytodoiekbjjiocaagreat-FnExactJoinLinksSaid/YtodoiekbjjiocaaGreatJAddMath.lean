/- How long what adding a link answers is, and that it says the same of sets that say the same. Conditions: none. -/
import Derived.Test.YtodoiekbjjiocaaGreatJPk
import Derived.Test.YtodoiekbjjiocaaGreatJAddAns
import Derived.Test.YtodoiekbjjiocaaGreatJSetAid
namespace Go.Proofs.YtodoiekbjjiocaaGreat
open Go.RowKit Nt Fr
set_option linter.unusedVariables false
def Dt.len (d : Dt) : Nat:=d.P.len + d.Q.len + d.R.len
theorem lensD_cons (d : Dt) (r : List Dt) : lensD (d :: r) = d.len + lensD r:=rfl
theorem okK_len {A B : Int} {P Q R : Fr} (h : okK A B P Q R = true) : P.len ≤ 48 ∧ Q.len ≤ 48 ∧ R.len ≤ 48:=by
 have hp:=okK_parts h
 exact ⟨Fr.Good.len (.inl (sgn_ok hp.2.2.2.1)),Fr.Good.len (.inl hp.2.2.2.2.1),Fr.Good.len (.inl hp.2.2.2.2.2)⟩
theorem okSet_short {zs : List Lr} (h : okSet zs = true) : zs.length ≤ 100:=by
 obtain ⟨hv,ha⟩:=okSet_iff.mp h
 have bnd : ∀ (k : Nat) (z : Lr),zs[k]? = some z → (0 ≤ z.A ∧ z.A < 10) ∧ (0 ≤ z.B ∧ z.B < 10):=fun k z hz=>by
  have hk:=(List.getElem?_eq_some_iff.mp hz).1
  have:=okK_parts (show okK z.A z.B z.P z.Q z.R = true from hv k z hk hz)
  exact ⟨this.1,this.2.1⟩
 have key : ∀ (k : Nat) (z : Lr),zs[k]? = some z → (k : Int) ≤ 10 * z.A + z.B:=by
  intro k
  induction k with
  | zero=>intro z hz; have:=bnd 0 z hz; omega
  | succ k ih=>
   intro z hz
   have hk:=(List.getElem?_eq_some_iff.mp hz).1
   have hy : zs[k]? = some (zs[k]'(by omega)):=List.getElem?_eq_getElem _
   have h1:=ih _ hy
   have h2:=ha k _ z hk hy hz
   have b1:=bnd _ _ hy
   have b2:=bnd _ _ hz
   simp only [Lr.less,lessK,Bool.or_eq_true,Bool.and_eq_true,decide_eq_true_eq] at h2
   omega
 by_cases hl : zs.length ≤ 100
 ·exact hl
 ·have hy : zs[100]? = some (zs[100]'(by omega)):=List.getElem?_eq_getElem _
  have h1:=key _ _ hy
  have b1:=bnd _ _ hy
  omega
end Go.Proofs.YtodoiekbjjiocaaGreat
