/- How long what adding a link answers is, and that it says the same of sets that say the same. Conditions: none. -/
import Derived.Test.YtodoiekbjjiocaaGreatAPk
import Derived.Test.YtodoiekbjjiocaaGreatAAddAns
import Derived.Test.YtodoiekbjjiocaaGreatASetAid
namespace Go.Proofs.YtodoiekbjjiocaaGreat
open Go.RowKit Nt Fr
set_option linter.unusedVariables false
def Dt.len (d : Dt) : Nat:=d.P.len + d.Q.len + d.R.len
theorem lensD_cons (d : Dt) (r : List Dt) : lensD (d :: r) = d.len + lensD r:=rfl
theorem lensD_app (a b : List Dt) : lensD (a ++ b) = lensD a + lensD b:=by
 induction a with
 | nil=>simp [lensD]
 | cons d r ih=>rw [List.cons_append,lensD_cons,lensD_cons,ih]; omega
theorem lensD_set (ds : List Dt) (i : Nat) (d : Dt) : lensD (ds.set i d) ≤ lensD ds + d.len:=by
 induction ds generalizing i with
 | nil=>simp [lensD]
 | cons x r ih=>
  cases i with
  | zero=>rw [List.set_cons_zero,lensD_cons,lensD_cons]; omega
  | succ i=>rw [List.set_cons_succ,lensD_cons,lensD_cons]; have:=ih i; omega
theorem okK_len {A B : Int} {P Q R : Fr} (h : okK A B P Q R = true) : P.len ≤ 48 ∧ Q.len ≤ 48 ∧ R.len ≤ 48:=by
 have hp:=okK_parts h
 exact ⟨Fr.Good.len (.inl (sgn_ok hp.2.2.2.1)),Fr.Good.len (.inl hp.2.2.2.2.1),Fr.Good.len (.inl hp.2.2.2.2.2)⟩
theorem addD_len {ds r : List Dt} {x : Dt} {E : Fr} (hx : okK x.A x.B x.P x.Q x.R = true) (h : addD ds x = some (r,E)) : r.length ≤ ds.length + 1 ∧ lensD r ≤ lensD ds + 144 ∧ E.len ≤ 120:=by
 have hxl:=okK_len hx
 have hof : (Fr.of 0).len ≤ 61:=by have:=of_len 0; unfold Fr.len; omega
 have hins : ∀ n,ds.length + 1 ≤ (ds.take n ++ x :: ds.drop n).length ∧ (ds.take n ++ x :: ds.drop n).length ≤ ds.length + 1 ∧ lensD (ds.take n ++ x :: ds.drop n) ≤ lensD ds + 144:=by
  intro n
  have h1 : lensD ds = lensD (ds.take n) + lensD (ds.drop n):=by rw [← lensD_app,List.take_append_drop]
  rw [lensD_app,lensD_cons,h1]
  have : x.len = x.P.len + x.Q.len + x.R.len:=rfl
  refine ⟨?_,?_,by omega⟩ <;> simp <;> omega
 unfold addD at h
 split at h
 ·simp only [Option.some.injEq,Prod.mk.injEq] at h
  obtain ⟨rfl,rfl⟩:=h
  exact ⟨(hins _).2.1,(hins _).2.2,by omega⟩
 ·rename_i d hd
  split at h
  ·split at h
   ·rename_i hm
    simp only [Option.some.injEq,Prod.mk.injEq] at h
    obtain ⟨rfl,rfl⟩:=h
    unfold mwOk at hm
    rw [Bool.and_eq_true] at hm
    have hl:=okK_len hm.1
    have he : (mgE d.P d.Q d.R x.P x.Q x.R).len ≤ 48:=Fr.Good.len (.inl hm.2)
    refine ⟨by rw [List.length_set]; omega,Nat.le_trans (lensD_set _ _ _) ?_,by omega⟩
    have : (mrgD d x).len = (d.P.add x.P).len + (mgX d.P d.Q x.P x.Q).len + (mgX d.P d.R x.P x.R).len:=rfl
    omega
   ·cases h
  ·simp only [Option.some.injEq,Prod.mk.injEq] at h
   obtain ⟨rfl,rfl⟩:=h
   exact ⟨(hins _).2.1,(hins _).2.2,by omega⟩
theorem alAns_len {ok : Bool} {ds r : List Dt} {x : Dt} {E : Fr} (hx : ok = true → okK x.A x.B x.P x.Q x.R = true) (h : alAns ok ds x = some (r,E)) : r.length ≤ ds.length + 1 ∧ lensD r ≤ lensD ds + 144 ∧ E.len ≤ 120:=by
 unfold alAns at h
 split at h
 ·rename_i hk; exact addD_len (hx hk) h
 ·cases h
theorem alAns_like {ys zs : List Lr} {n : Nat} {o : Bool} {x : Dt} (hy : ys.length = n) (hz : zs.length = n) (h : ∀ (i : Nat) (y z : Lr),ys[i]? = some y → zs[i]? = some z → y.like z) : alAns (okSet ys && o) (dts ys) x = alAns (okSet zs && o) (dts zs) x:=by
 rw [okSet_like hy hz h,dts_like hy hz h]
theorem okSet_short {zs : List Lr} (h : okSet zs = true) : zs.length ≤ 100:=by
 obtain ⟨hv,ha⟩:=okSet_iff.mp h
 have bnd : ∀ (k : Nat) (z : Lr),zs[k]? = some z → (0 ≤ z.A ∧ z.A < 10) ∧ (0 ≤ z.B ∧ z.B < 10):=fun k z hz=>by
  have hk:=(List.getElem?_eq_some_iff.mp hz).1
  have:=okK_parts (show okK z.A z.B z.P z.Q z.R = true from hv k z hk hz)
  exact ⟨this.1,this.2.1⟩
 have key : ∀ (k : Nat) (z : Lr),zs[k]? = some z → (k : Int) ≤ 10 * z.A + z.B:=by
  intro k
  induction k with
  | zero=>intro z hz; have:=bnd 0 z hz; omega
  | succ k ih=>
   intro z hz
   have hk:=(List.getElem?_eq_some_iff.mp hz).1
   have hy : zs[k]? = some (zs[k]'(by omega)):=List.getElem?_eq_getElem _
   have h1:=ih _ hy
   have h2:=ha k _ z hk hy hz
   have b1:=bnd _ _ hy
   have b2:=bnd _ _ hz
   simp only [Lr.less,lessK,Bool.or_eq_true,Bool.and_eq_true,decide_eq_true_eq] at h2
   omega
 by_cases hl : zs.length ≤ 100
 ·exact hl
 ·have hy : zs[100]? = some (zs[100]'(by omega)):=List.getElem?_eq_getElem _
  have h1:=key _ _ hy
  have b1:=bnd _ _ hy
  omega
end Go.Proofs.YtodoiekbjjiocaaGreat
