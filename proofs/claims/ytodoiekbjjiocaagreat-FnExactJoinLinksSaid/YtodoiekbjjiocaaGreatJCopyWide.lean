/- The library's copy over rows whose elements have several cells, as a law for the walk. Conditions: none. -/
import Derived.Test.YtodoiekbjjiocaaGreatJPk
import Derived.Test.YtodoiekbjjiocaaGreatJGrow
import Derived.Laws.CopyOwn
import Derived.Lib.AppendZerosOnto
namespace Go.Proofs.YtodoiekbjjiocaaGreat
open Go.RowKit Nt Fr
set_option linter.unusedVariables false
theorem run_copy_wide {P : Program} (w : World) (dT sT ty elem : TypeId) (S : Nat) (hu : P.underlying dT = some (.slice elem)) (hsz : (P.info? elem).map (·.size) = some S)
 (dp sp : Option Addr) (dLen dCap sLen sCap : Nat) (g off : Nat) (cur : List Value) (t : TypeId) (hg : w.heap[g]? = some (.cells cur.toArray t (0,0))) (cs : List Value) (hn : cs.length = Nat.min sLen dLen * S)
 (hpos : 0 < cs.length → dp = some ⟨g,off,none⟩ ∧ ∃ ad,sp = some ad ∧ ∀ j v,cs[j]? = some v → w.cell? (ad.add j) = some v) (hS : 0 < S)
 (hfit : off + cs.length ≤ cur.length) (h1 : ∀ v ∈ cs,v.oneCell' = true) :
 (Builtin.copy_ #[dT,sT] ty #[.slice dp dLen dCap,.slice sp sLen sCap]).run P w = .ok (goInt (Nat.min sLen dLen)) (w.setRow g (splice cur off cs).toArray):=by
 cases hq : P.info? elem with
 | none=>simp [hq] at hsz
 | some i=>
  have hi : i.size = S:=by simpa [hq] using hsz
  by_cases h0 : cs.length = 0
  ·have hm : Nat.min sLen dLen = 0:=by
    rcases Nat.eq_zero_or_pos (Nat.min sLen dLen) with h | h
    ·exact h
    ·have:=Nat.mul_pos h hS; omega
   obtain rfl : cs = []:=List.eq_nil_of_length_eq_zero h0
   have hsp : splice cur off [] = cur:=by simp [splice]
   rw [hsp,setRow_self w g cur.toArray t (0,0) hg,hm]
   have hl : ∀ x : Addr,(loadCells x 0).run P w = .ok #[] w:=fun x=>by simpa using run_loadCells_list (P:=P) w x [] (by simp)
   cases dp <;> cases sp <;> simp [Builtin.copy_,run_underlying hu,Builtin.lenOf,Builtin.firstCells,sizeOf,typeInfo,hq,hm,hl,storeCells]
  ·obtain ⟨rfl,ad,rfl,hsrc⟩:=hpos (by omega)
   have hl:=run_loadCells_list (P:=P) w ad cs hsrc
   have hst:=run_storeCells_at P g off t cs 0 cur.toArray w hg (by simpa using hfit) h1
   simp only [Nat.add_zero] at hst
   have hsp : (splice cur off cs) = cur.take off ++ cs ++ cur.drop (off + cs.length):=by simp [splice]
   rw [hsp]
   simp [Builtin.copy_,run_underlying hu,Builtin.lenOf,Builtin.firstCells,sizeOf,typeInfo,hq,hi,← hn,hl,hst]
end Go.Proofs.YtodoiekbjjiocaaGreat
