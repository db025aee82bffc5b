/- Link sets: what is like answers alike. Conditions: none. -/
import Derived.Test.YtodoiekbjjiocaaGreatJPk
import Derived.Test.YtodoiekbjjiocaaGreatJIsSet
namespace Go.Proofs.YtodoiekbjjiocaaGreat
open Go.RowKit Nt Fr
set_option linter.unusedVariables false
theorem St.comp {w0 w w' : World} {bs bs2 : List (Nat × List Value)} {cs cs2 : List Chunk} (h : St w0 w bs cs) (h2 : St w w' bs2 cs2) : St w0 w' (bs2 ++ bs) (cs2 ++ cs):=by
 have h':=h.call h2.below
 refine ⟨h'.below,fun p hp=>?_,fun l hl=>?_,List.pairwise_append.mpr ⟨h2.bb,h'.bb,fun p hp q hq=>?_⟩,List.pairwise_append.mpr ⟨h2.cc,h'.cc,fun l hl m hm=>?_⟩,fun p hp l hl q hq=>?_⟩
 ·rcases List.mem_append.mp hp with a | a
  ·exact ⟨(h2.box p a).1,Nat.le_trans h.size (h2.box p a).2⟩
  ·exact h'.box p a
 ·rcases List.mem_append.mp hl with a | a
  ·exact (h2.row l a).based h.size
  ·exact h'.row l a
 ·have a:=(h2.box p hp).2
  have b:=(h.box q hq).1.lt
  omega
 ·exact (h.row m hm).newer (h2.row l hl) (Nat.le_refl _)
 ·rcases List.mem_append.mp hp with a | a
  ·rcases List.mem_append.mp hl with c | c
   ·exact h2.br p a l c q hq
   ·intro k e1 e2
    have x:=(h2.box p a).2
    have y:=(((h.row l c).1 q hq).lt k e2).2
    obtain rfl : p.1 = k:=by simpa using e1
    omega
  ·rcases List.mem_append.mp hl with c | c
   ·intro k e1 e2
    have x:=(h.box p a).1.lt
    have y:=(((h2.row l c).1 q hq).lt k e2).1
    obtain rfl : p.1 = k:=by simpa using e1
    omega
   ·exact h'.br p a l c q hq
theorem like_both {xs ys zs : List Lr} {n : Nat} (hx : xs.length = n) (hy : ys.length = n) (hz : zs.length = n) (h1 : ∀ (i : Nat) (y z : Lr),xs[i]? = some y → zs[i]? = some z → y.like z) (h2 : ∀ (i : Nat) (y z : Lr),ys[i]? = some y → zs[i]? = some z → y.like z) : ∀ (i : Nat) (x y : Lr),xs[i]? = some x → ys[i]? = some y → x.like y:=by
 intro i x y ex ey
 have hi : i < n:=by have:=(List.getElem?_eq_some_iff.mp ex).1; omega
 have ez : zs[i]? = some (zs[i]'(by omega)):=List.getElem?_eq_getElem _
 obtain ⟨a1,a2,a3,a4,a5⟩:=h1 i x _ ex ez
 obtain ⟨b1,b2,b3,b4,b5⟩:=h2 i y _ ey ez
 exact ⟨a1.trans b1.symm,a2.trans b2.symm,a3.trans b3.symm,a4.trans b4.symm,a5.trans b5.symm⟩
end Go.Proofs.YtodoiekbjjiocaaGreat
