/- What a function leaves that answers links of its own and a fraction, in one word with what was there. Conditions: none. -/
import Derived.Test.YtodoiekbjjiocaaGreatJPk
import Derived.Test.YtodoiekbjjiocaaGreatJAddMath
namespace Go.Proofs.YtodoiekbjjiocaaGreat
open Go.RowKit Nt Fr
set_option linter.unusedVariables false
def rD (r : Option (List Dt × Fr)) : List Dt:=match r with | none=>[] | some p=>p.1
def rE (r : Option (List Dt × Fr)) : Fr:=match r with | none=>⟨false,[],[]⟩ | some p=>p.2
theorem OwnSE.lks {r : Option (List Dt × Fr)} {w0 w1 w : World} {bs : List (Nat × List Value)} {cs : List Chunk} {en : Ending} (h : OwnSE r w1 en w) (hS : St w0 w1 bs cs) : ∃ A c ys bO cO A0 n0 c0 A1 n1 c1,en = .returned (.tuple #[.slice A ys.length c,.agg #[.bool (rE r).s,.slice A0 n0 c0,.slice A1 n1 c1],.bool r.isSome]) ∧ dts ys = rD r ∧ Lks A ys.length c ys bO cO ∧ St w0 w (bs ++ bO) ([(.slice A0 n0 c0,ints (rE r).xs),(.slice A1 n1 c1,ints (rE r).ys)] :: (cs ++ cO)):=by
 cases r with
 | none=>
  refine ⟨none,0,[],[],[],none,0,0,none,0,0,h.1,rfl,⟨rfl,.inl ⟨rfl,rfl,rfl,rfl,rfl⟩⟩,?_⟩
  rw [List.append_nil,List.append_nil]
  exact (hS.call h.2).rows (Owns.nils _ _ 2) (Below.refl _ _)
 | some p=>
  obtain ⟨ds,E⟩:=p
  obtain ⟨v,ys,e0,e1,he,hd,hg⟩:=h
  obtain ⟨A0,n0,c0,rfl⟩:=(hg.en.at_ 0 rfl).shape3
  obtain ⟨A1,n1,c1,rfl⟩:=(hg.en.at_ 1 rfl).shape3
  obtain ⟨A,c,bO,cO,rfl,hk,hst⟩:=hg.g.lks
  refine ⟨A,c,ys,bO,cO,A0,n0,c0,A1,n1,c1,he,hd,hk,?_⟩
  have hE : St w1 w bO ([(.slice A0 n0 c0,ints E.xs),(.slice A1 n1 c1,ints E.ys)] :: cO):=by
   have hV:=hg.farV
   refine ⟨hst.below,hst.box,?_,hst.bb,List.pairwise_cons.mpr ⟨?_,hst.cc⟩,?_⟩
   ·intro l hl
    rcases List.mem_cons.mp hl with rfl | hl
    ·exact hg.en
    ·exact hst.row l hl
   ·intro l hl
    rcases hk.2 with ⟨_,_,_,_,rfl⟩ | ⟨b,_,_,rfl⟩
    ·cases hl
    ·simp only [List.mem_singleton] at hl
     subst hl
     exact hg.far.symm
   ·intro q hq l hl
    rcases List.mem_cons.mp hl with rfl | hl
    ·rcases hk.2 with ⟨_,_,_,rfl,_⟩ | ⟨b,rfl,rfl,_⟩
     ·cases hq
     ·simp only [List.mem_singleton] at hq
      subst hq
      exact fun x hx=>hV x hx
    ·exact hst.br q hq l hl
  exact (hS.comp hE).perm List.perm_append_comm (.cons _ List.perm_append_comm)
end Go.Proofs.YtodoiekbjjiocaaGreat
