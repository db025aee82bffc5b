/- The library's slices.Backward over conditionals: what its iterator hands to a loop's body. Conditions: none. -/
import Derived.RangeFuncNested
import Derived.RangeFuncBound
import Derived.RangeFuncCalls
import Derived.RangeFuncLeaves
import Derived.RangeFuncBox
import Derived.Shelf.Abstract
import Derived.Shelf.RegionOpen
import Derived.OwnWalkIn
import Derived.TacticsInMore
import Derived.LoopNIn
import Derived.LoopIn
import Derived.Test.YtaboodioabopnaaGreatNNetMath
namespace Go.Proofs.YtaboodioabopnaaGreat
open Go.RowKit Go.Shelf
set_option linter.unusedVariables false
attribute [local go_sem] Oper.semAt_some
def dnN (n k : Nat) : List Nat := (List.range n).reverse.take k
theorem dnN_zero (n : Nat) : dnN n 0 = [] := rfl
theorem dnN_len {n k : Nat} (h : k ≤ n) : (dnN n k).length = k := by simp [dnN]; omega
theorem dnN_succ {n k : Nat} (h : k < n) : dnN n (k + 1) = dnN n k ++ [n - 1 - k] := by
 unfold dnN
 rw [List.take_add_one]
 congr 1
 have : (List.range n).reverse[k]? = some (n - 1 - k) := by
   rw [List.getElem?_reverse (by simpa using h), List.getElem?_range (by simp; omega)]
   simp
 rw [this]
 rfl
def dnF (n k : Nat) : List (Fin n) := (List.finRange n).reverse.take k
theorem dnF_val (n k : Nat) : (dnF n k).map Fin.val = dnN n k := by
 unfold dnF dnN
 rw [List.map_take, List.map_reverse]
 congr 2
 apply List.ext_getElem
 · simp
 · intro i h1 h2
   simp
theorem dnF_len {n k : Nat} (h : k ≤ n) : (dnF n k).length = k := by
 have := congrArg List.length (dnF_val n k)
 rw [List.length_map, dnN_len h] at this
 exact this
theorem dnF_succ {n k m : Nat} (h : k < n) (hm : m = n - 1 - k) (hl : m < n) : dnF n (k + 1) = dnF n k ++ [⟨m, hl⟩] := by
 have e : (dnF n (k + 1)).map Fin.val = (dnF n k ++ [(⟨m, hl⟩ : Fin n)]).map Fin.val := by
   subst hm
   rw [dnF_val, List.map_append, dnF_val, dnN_succ h]
   rfl
 exact (List.map_inj_right (fun x y hxy => Fin.ext hxy)).mp e
def cdv (ms : List Cd) (i : Nat) : Value := match ms[i]? with
 | some m => .agg m.cells.toArray
 | none => .bool false
def KpB (n₀ Bs : Nat) (W W' : World) : Prop := Below n₀ W W' ∧ W'.heap[Bs]? = W.heap[Bs]?
theorem kpB_t {n₀ Bs : Nat} {A B C : World} (h : KpB n₀ Bs A B) (k : KpB n₀ Bs B C) : KpB n₀ Bs A C := ⟨h.1.trans k.1, k.2.trans h.2⟩
theorem kpB_b {n₀ Bs : Nat} {w : World} (hn : n₀ ≤ w.heap.size) (hB : Bs < w.heap.size) (W : World) (l : Nat) (o o' : Obj) (hl : w.heap.size ≤ l) (h : W.heap[l]? = some o) (hc : o.isCells = false) (hw : o.isWalk = false) : KpB n₀ Bs W (W.putObj l o') :=
 ⟨belowK_b hn W l o o' hl h hc hw, World.putObj_heap_other (by omega)⟩
theorem heap_setCell_ne {W : World} {b k : Nat} (o : Nat) (v : Value) (h : b ≠ k) : (W.setCell ⟨b, o, none⟩ v).heap[k]? = W.heap[k]? := by
 show (W.heap.modify b _)[k]? = _
 rw [Array.getElem?_modify, if_neg h]
theorem kpB_set {n₀ Bs b : Nat} {W : World} (hb : n₀ ≤ b) (hne : b ≠ Bs) (o : Nat) (v : Value) : KpB n₀ Bs W (W.setCell ⟨b, o, none⟩ v) :=
 ⟨(Below.refl n₀ W).setCell (p := ⟨b, o, none⟩) hb _, heap_setCell_ne o v hne⟩
set_option maxRecDepth 100000 in
set_option maxHeartbeats 2000000 in
theorem backward1_in (F : Fence) (n : Nat) (h10 : F.fn 57) (hro : F.round = none) (hn : 1 ≤ n) (l Bs n₀ : Nat) (A : Option Addr) (len cap : Nat) (ms : List Cd) (hreach : len ≤ 1048576) (J Jx : List (Fin len) → World → Prop)
   (hY : ∀ pre x W, J pre W → pre.length < len → YieldAt F (n - 1) Tryz.prog l #[.int .i64 (x.val : Int), cdv ms x.val] W fun e W' =>
     (e = .returned (.bool true) ∧ J (pre ++ [x]) W' ∧ KpB n₀ Bs W W') ∨ (e = .returned (.bool false) ∧ Jx (pre ++ [x]) W'))
   (W : World) (hBs : W.cell? ⟨Bs, 0, none⟩ = some (.slice A len cap)) (hA : CArg W A len ms) (hlow : 0 < len → ∀ a : Addr, A = some a → a.block < n₀) (h0 : J [] W) :
   CallsIn F n Tryz.prog 57 #[.func (.yield l) #[] #[], .pointer (some ⟨Bs, 0, none⟩)] W fun e W' => (∃ v, e = .returned v) ∧
     ((∃ ys, ys = dnF len len ∧ J ys W') ∨ (∃ pre, (∃ k, k ≤ len ∧ pre = dnF len k) ∧ Jx pre W')) := by
 have HL := Lib.hid (show ms.length = len from hA.len)
 refine callsIn_of_wp Tryz.func57 rfl h10 ?_ hro
 simp only [Tryz.ntmps57, List.size_toArray, List.length_cons, List.length_nil, Nat.reduceAdd, Nat.reduceSub, Array.replicate_succ, Array.replicate_zero, List.push_toArray, List.append_toArray, List.nil_append, List.cons_append]
 have hw0 : IntKind.i64.wrap ((len : Int) - 1) = (len : Int) - 1 := by rw [IntKind.wrap_i64]; omega
 gi_wp2
 gi_loopw [3] (fun i wr => ∃ k : Nat, k ≤ len ∧ i = .int .i64 ((len : Int) - 1 - k) ∧ J (dnF len k) wr ∧ KpB n₀ Bs W wr)
   (fun i _ => (intOf i + 1).toNat)
 case atStart => exact ⟨0, Nat.zero_le _, by simp, h0, Below.refl _ _, rfl⟩
 case round =>
   obtain ⟨k, hk, rfl, hJs, hnx⟩ := hrel
   have hBk : wr.cell? ⟨Bs, 0, none⟩ = some (.slice A len cap) := (World.cell?_of_block (w := W) (a := ⟨Bs, 0, none⟩) hnx.2).trans hBs
   by_cases hlt : k < len
   · obtain ⟨m, hm⟩ : ∃ m : Nat, m = len - 1 - k := ⟨_, rfl⟩
     have hmi : (len : Int) - 1 - k = (m : Int) := by omega
     have hml : m < len := by omega
     obtain ⟨g, o, z, rfl, hg, hz, _, hc⟩ := hA.at_ hml
     obtain ⟨N, T, t0, t1, Bp, p, q, zs⟩ := z
     have hv : cdv ms m = .agg #[.int .i64 N, .bool T.s, t0, t1, .slice Bp p q] := by simp [cdv, hz, Cd.cells]
     have hc0 : wr.cell? ⟨g, o + m * 5, none⟩ = some (.int .i64 N) := (hnx.1.cell (p := ⟨g, o + m * 5, none⟩) (hlow (by omega) ⟨g, o, none⟩ rfl)).trans (hc 0 _ rfl)
     have hc1 : wr.cell? ⟨g, o + m * 5 + 1, none⟩ = some (.bool T.s) := (hnx.1.cell (p := ⟨g, o + m * 5 + 1, none⟩) (hlow (by omega) ⟨g, o, none⟩ rfl)).trans (hc 1 _ rfl)
     have hc2 : wr.cell? ⟨g, o + m * 5 + 2, none⟩ = some (t0) := (hnx.1.cell (p := ⟨g, o + m * 5 + 2, none⟩) (hlow (by omega) ⟨g, o, none⟩ rfl)).trans (hc 2 _ rfl)
     have hc3 : wr.cell? ⟨g, o + m * 5 + 3, none⟩ = some (t1) := (hnx.1.cell (p := ⟨g, o + m * 5 + 3, none⟩) (hlow (by omega) ⟨g, o, none⟩ rfl)).trans (hc 3 _ rfl)
     have hc4 : wr.cell? ⟨g, o + m * 5 + 4, none⟩ = some (.slice Bp p q) := (hnx.1.cell (p := ⟨g, o + m * 5 + 4, none⟩) (hlow (by omega) ⟨g, o, none⟩ rfl)).trans (hc 4 _ rfl)
     obtain ⟨fn, tmps, assign, body, hy, hR⟩ := hY _ ⟨m, hml⟩ wr hJs (by rw [dnF_len hk]; exact hlt)
     dsimp only at hy hR
     rw [hv] at hy
     rw [hmi]
     have hwm : IntKind.i64.wrap ((m : Int) - 1) = (m : Int) - 1 := by rw [IntKind.wrap_i64]; omega
     have HM := Lib.hid hm
     have HMI := Lib.hid hmi
     clear hm hmi hc hz
     gi_wp2
     refine hR.mono ?_
     rintro e W3 (⟨rfl, hJ3, hk3⟩ | ⟨rfl, hJx3⟩)
     · gi_wp2
       go_roundw
       case rel => exact ⟨k + 1, by omega, by have := HMI.out; congr 1; omega, by rw [dnF_succ hlt HM.out hml]; exact hJ3, kpB_t hnx hk3⟩
       case measure => have := HMI.out; simp [intOf] <;> omega
     · gi_wp2
       refine bodyPost_ret (results_none rfl _ _ _) rfl ?_
       exact ⟨⟨_, rfl⟩, .inr ⟨_, ⟨k + 1, by omega, (dnF_succ hlt HM.out hml).symm⟩, hJx3⟩⟩
   · obtain rfl : k = len := by omega
     have hmi : (k : Int) - 1 - k = -1 := by omega
     rw [hmi]
     gi_wp2
     go_end0
     exact ⟨⟨_, rfl⟩, .inl ⟨_, rfl, hJs⟩⟩
theorem backward_stops (F : Fence) (n : Nat) (h10 : F.fn 57) (hro : F.round = none) (hn : 1 ≤ n) (Bs n₀ : Nat) (A : Option Addr) (len cap : Nat) (ms : List Cd) (hreach : len ≤ 1048576) (w : World) (hBs : Bs < w.heap.size) (hn₀ : n₀ ≤ w.heap.size)
   (hc : w.cell? ⟨Bs, 0, none⟩ = some (.slice A len cap)) (hA : CArg w A len ms) (hlow : 0 < len → ∀ a : Addr, A = some a → a.block < n₀) :
   SeqStopsK F n Tryz.prog 57 #[.pointer (some ⟨Bs, 0, none⟩)] (fun x : Fin len => #[Value.int .i64 (x.val : Int), cdv ms x.val]) (KpB n₀ Bs) (fun ys => ys = dnF len len)
     (fun pre => ∃ k, k ≤ len ∧ pre = dnF len k) len w := fun l J Jx W hW _ _ hY h0 =>
 backward1_in F n h10 hro hn l Bs n₀ A len cap ms hreach J Jx hY W ((hW.cell (p := ⟨Bs, 0, none⟩) hBs).trans hc) (hA.below hW) hlow h0
set_option maxRecDepth 100000 in
set_option maxHeartbeats 1000000 in
theorem backward_f (A : Option Addr) (len cap : Nat) (w : World) :
   Calls Tryz.prog 26 #[.slice A len cap] w fun e w' => e = .returned (.func (.func 57) #[] #[.pointer (some ⟨w.heap.size, 0, none⟩)]) ∧ w' = w.alloc (.cells #[.slice A len cap] 25) := by
 go_enter Tryz.func26, Tryz.ntmps26
 go_wp2
 go_ret
 exact ⟨rfl, rfl⟩
end Go.Proofs.YtaboodioabopnaaGreat
