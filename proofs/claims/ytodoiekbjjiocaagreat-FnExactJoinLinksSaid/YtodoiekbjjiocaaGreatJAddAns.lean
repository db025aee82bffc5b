/- What a function leaves that answers links of its own and a fraction, carried on. Conditions: none. -/
import Derived.Test.YtodoiekbjjiocaaGreatJPk
import Derived.Test.YtodoiekbjjiocaaGreatJAddTo
import Derived.Test.YtodoiekbjjiocaaGreatJGraphSet
namespace Go.Proofs.YtodoiekbjjiocaaGreat
open Go.RowKit Nt Fr
set_option linter.unusedVariables false
theorem own_lower {w : World} {base base' : Nat} {e : TypeId} {size n : Nat} {v : Value} {X : List Value} (h : w.ownsRow base e size v n X) (hb : base' ≤ base) : w.ownsRow base' e size v n X:=by
 refine ⟨h.1,?_⟩
 rcases h.2 with a | ⟨g,cap,cur,r1,r2,r3⟩
 ·exact .inl a
 ·exact .inr ⟨g,cap,cur,r1,Nat.le_trans hb r2,r3⟩
theorem LGrow.based {w0 w1 w : World} {v : Value} {ys : List Lr} (h : LGrow w1 w v ys) (hb : Below w0.heap.size w0 w1) : LGrow w0 w v ys :=
 ⟨hb.trans (h.below.mono hb.size),own_lower h.own hb.size,h.row.based hb.size,h.br⟩
theorem OwnSE.stored {r : Option (List Dt × Fr)} {w0 w1 w : World} {en : Ending} {b : Nat} (h : OwnSE r w1 en w) (hB : Below w0.heap.size w0 w1) (hb : b < w1.heap.size) (hb0 : w0.heap.size ≤ b) (m : Nat) (us : List Value) : OwnSE r w0 en (setCells w b m us):=by
 cases r with
 | none=>exact ⟨h.1,below_setCells us m hb0 (hB.trans (h.2.mono hB.size))⟩
 | some p=>
  obtain ⟨ds,E⟩:=p
  obtain ⟨v,ys,e0,e1,he,hd,hg⟩:=h
  have hv : v.ownBlock ≠ some b:=fun e=>by have:=(hg.g.own.lt b e).1; omega
  exact ⟨v,ys,e0,e1,he,hd,⟨(hg.g.based hB).stored hb0 hv (hg.g.row.young hb) m us,(hg.en.stored (hg.en.young hb) m us).based hB.size,hg.far,hg.farV⟩⟩
theorem OwnSE.drew {r : Option (List Dt × Fr)} {w1 w : World} {en : Ending} (h : OwnSE r w1 en w) : OwnSE r w1 en w.drew:=by
 cases r with
 | none=>exact ⟨h.1,h.2.drew⟩
 | some p=>
  obtain ⟨ds,E⟩:=p
  obtain ⟨v,ys,e0,e1,he,hd,hg⟩:=h
  exact ⟨v,ys,e0,e1,he,hd,⟨hg.g.drew,hg.en.below ((Below.refl _ _).drew),hg.far,hg.farV⟩⟩
def alAns (ok : Bool) (ds : List Dt) (x : Dt) : Option (List Dt × Fr):=if ok = true then addD ds x else none
theorem ok_like {ys zs : List Lr} (h : dts ys = dts zs) (hz : ∀ z ∈ zs,okK z.A z.B z.P z.Q z.R = true) : ∀ y ∈ ys,okK y.A y.B y.P y.Q y.R = true:=by
 intro y hy
 have : y.d ∈ dts zs:=h ▸ List.mem_map_of_mem hy
 obtain ⟨z,hz',e⟩:=List.mem_map.mp this
 have hl:=d_like e
 have:=hz z hz'
 obtain ⟨h1,h2,h3,h4,h5⟩:=hl
 rwa [h1,h2,h3,h4,h5] at this
theorem len_like {ys zs : List Lr} (h : dts ys = dts zs) : ys.length = zs.length:=by have:=congrArg List.length h; simpa [dts] using this
end Go.Proofs.YtodoiekbjjiocaaGreat
