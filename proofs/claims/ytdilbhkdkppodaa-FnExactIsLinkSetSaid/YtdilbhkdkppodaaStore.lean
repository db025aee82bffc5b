/- What a walk holds in one word: old memory unturned, blocks of its own and chunks of rows of its own, all apart; and how that is kept. Conditions: none. -/
import Derived.Test.YtdilbhkdkppodaaHeld
import Derived.Test.YtdilbhkdkppodaaRatMath
namespace Go.Proofs.Ytdilbhkdkppodaa
open Go.RowKit
set_option linter.unusedVariables false

theorem OwnV.shape3 {w : World} {base : Nat} {e : TypeId} {v : Value} {X : List Value} (h : OwnV w base e v X) : ∃ A n c, v = .slice A n c := by
  obtain ⟨A, c, h⟩ := h.shape
  exact ⟨A, _, c, h⟩
/-- A chunk of rows: each a slice value and what it reads as. -/
abbrev Chunk := List (Value × List Value)
/-- Two blocks, if there are two, are not one. -/
def Far (a b : Option Nat) : Prop := ∀ k, a = some k → b = some k → False
theorem Far.symm {a b : Option Nat} (h : Far a b) : Far b a := fun k h1 h2 => h k h2 h1
theorem Far.ne {a b : Option Nat} (h : Far a b) : a = none ∨ a ≠ b := by
  cases a with
  | none => exact .inl rfl
  | some k => exact .inr fun e => h k rfl e.symm
theorem Far.of_ne {a b : Option Nat} (h : a = none ∨ a ≠ b) : Far a b := by
  intro k h1 h2
  rcases h with h | h
  · rw [h] at h1; simp at h1
  · exact h (h1.trans h2.symm)
def FarL (l m : Chunk) : Prop := ∀ p ∈ l, ∀ q ∈ m, Far p.1.ownBlock q.1.ownBlock
theorem FarL.symm {l m : Chunk} (h : FarL l m) : FarL m l := fun p hp q hq => (h q hq p hp).symm
/-- The blocks of a chunk. -/
def blks (l : Chunk) : List (Option Nat) := l.map fun p => p.1.ownBlock
/-- Rows of one's own, all apart. -/
def Owns (w : World) (base : Nat) (rs : Chunk) : Prop :=
  (∀ p ∈ rs, OwnV w base 3 p.1 p.2) ∧ rs.Pairwise fun p q => Far p.1.ownBlock q.1.ownBlock
/-- Only the named blocks may have turned. -/
structure Turned (w w' : World) (bl : List (Option Nat)) : Prop where
  os : w'.os = w.os
  tape : w'.tape = w.tape
  output : w'.output = w.output
  size : w.heap.size ≤ w'.heap.size
  block : ∀ k, k < w.heap.size → some k ∉ bl → w'.heap[k]? = w.heap[k]?
theorem OwnV.sameAt {w w' : World} {base : Nat} {e : TypeId} {v : Value} {X : List Value} (h : OwnV w base e v X) (hb : ∀ k, v.ownBlock = some k → w'.heap[k]? = w.heap[k]?) : OwnV w' base e v X := by
  rcases h with h | ⟨g, c, ys, rfl, h1, h2, h3, h4⟩
  · exact .inl h
  · refine .inr ⟨g, c, ys, rfl, h1, h2, ?_, h4⟩
    obtain ⟨q1, q2⟩ := h3
    refine ⟨q1, ?_⟩
    rcases q2 with q2 | ⟨g', cap, cur, hv, hbase, hh, r⟩
    · exact .inl q2
    · obtain ⟨rfl, _⟩ : g = g' ∧ ys.length = cap := by simpa using hv
      exact .inr ⟨g, cap, cur, hv, hbase, (hb g (by simp [Value.ownBlock])).trans hh, r⟩
section
variable {w w' w1 w2 : World} {bl bm : List (Option Nat)}
theorem Turned.refl (w : World) (bl : List (Option Nat)) : Turned w w bl := ⟨rfl, rfl, rfl, Nat.le_refl _, fun _ _ _ => rfl⟩
theorem Turned.of_grown {row : Option Nat} (h : w.grownBy w' row) : Turned w w' [row] := ⟨h.os, h.tape, h.output, h.size, fun k hk hn => h.block k hk (by simpa using hn)⟩
theorem Turned.of_below {B : Nat} (h : Below B w w') (hB : w.heap.size ≤ B) : Turned w w' [] := ⟨h.os, h.tape, h.output, h.size, fun k hk _ => h.block k (by omega)⟩
theorem Turned.trans (h : Turned w w1 bl) (h2 : Turned w1 w2 bm) : Turned w w2 (bl ++ bm) :=
  ⟨h2.os.trans h.os, h2.tape.trans h.tape, h2.output.trans h.output, Nat.le_trans h.size h2.size, fun k hk hn => by
    rw [List.mem_append, not_or] at hn
    exact (h2.block k (Nat.lt_of_lt_of_le hk h.size) hn.2).trans (h.block k hk hn.1)⟩
theorem Turned.mono (h : Turned w w' bl) (hs : ∀ x ∈ bl, x ∈ bm) : Turned w w' bm := ⟨h.os, h.tape, h.output, h.size, fun k hk hn => h.block k hk fun hm => hn (hs _ hm)⟩
theorem Turned.below {B : Nat} {a : World} (ht : Turned w w' bl) (h : Below B a w) (hB : B ≤ w.heap.size) (hb : ∀ k, some k ∈ bl → B ≤ k) : Below B a w' :=
  ⟨ht.os.trans h.os, ht.tape.trans h.tape, ht.output.trans h.output, Nat.le_trans h.size ht.size, fun k hk => (ht.block k (by omega) (fun hm => by have := hb k hm; omega)).trans (h.block k hk)⟩
theorem Turned.held {b : Nat} {vs : List Value} (ht : Turned w w' bl) (h : HeldL w b vs) (hb : some b ∉ bl) : HeldL w' b vs := h.same ht.size (ht.block b h.lt hb)
theorem Turned.own {base : Nat} {e : TypeId} {v : Value} {X : List Value} (ht : Turned w w' bl) (h : OwnV w base e v X) (hb : ∀ x ∈ bl, Far v.ownBlock x) : OwnV w' base e v X :=
  h.sameAt fun k hk => ht.block k (h.lt k hk).2 fun hm => hb _ hm k hk rfl
end
theorem Owns.nil (w : World) (base : Nat) : Owns w base [] := ⟨by simp, .nil⟩
theorem Owns.one {w : World} {base : Nat} {v : Value} {X : List Value} (h : OwnV w base 3 v X) : Owns w base [(v, X)] := ⟨by simpa using h, by simp⟩
theorem Owns.below {w w' : World} {base : Nat} {l : Chunk} (h : Owns w base l) (hb : Below w.heap.size w w') : Owns w' base l := ⟨fun p hp => (h.1 p hp).below hb, h.2⟩
theorem Owns.based {w : World} {base base' : Nat} {l : Chunk} (h : Owns w base l) (hb : base' ≤ base) : Owns w base' l := ⟨fun p hp => (h.1 p hp).based hb, h.2⟩
theorem Owns.app {w : World} {base : Nat} {l m : Chunk} (h : Owns w base l) (h2 : Owns w base m) (hf : FarL l m) : Owns w base (l ++ m) :=
  ⟨fun p hp => (List.mem_append.mp hp).elim (h.1 p) (h2.1 p), List.pairwise_append.mpr ⟨h.2, h2.2, hf⟩⟩
theorem Owns.left {w : World} {base : Nat} {l m : Chunk} (h : Owns w base (l ++ m)) : Owns w base l := ⟨fun p hp => h.1 p (List.mem_append_left _ hp), (List.pairwise_append.mp h.2).1⟩
theorem Owns.right {w : World} {base : Nat} {l m : Chunk} (h : Owns w base (l ++ m)) : Owns w base m := ⟨fun p hp => h.1 p (List.mem_append_right _ hp), (List.pairwise_append.mp h.2).2.1⟩
theorem Owns.far {w : World} {base : Nat} {l m : Chunk} (h : Owns w base (l ++ m)) : FarL l m := fun p hp q hq => (List.pairwise_append.mp h.2).2.2 p hp q hq
theorem Owns.at_ {w : World} {base : Nat} {l : Chunk} (h : Owns w base l) (k : Nat) {v : Value} {X : List Value} (e : l[k]? = some (v, X)) : OwnV w base 3 v X := h.1 _ (List.mem_of_getElem? e)
/-- A chunk that was there and one made behind it. -/
theorem Owns.newer {w w' : World} {base base' : Nat} {l m : Chunk} (h : Owns w base l) (h2 : Owns w' base' m) (hb : w.heap.size ≤ base') : FarL m l := fun p hp q hq k e1 e2 => by
  have a := ((h2.1 p hp).lt k e1).1
  have b := ((h.1 q hq).lt k e2).2
  omega
/-- Since w0: old memory is unturned; the blocks bs and the chunks cs were made, all apart. -/
structure St (w0 w : World) (bs : List (Nat × List Value)) (cs : List Chunk) : Prop where
  below : Below w0.heap.size w0 w
  box : ∀ p ∈ bs, HeldL w p.1 p.2 ∧ w0.heap.size ≤ p.1
  row : ∀ l ∈ cs, Owns w w0.heap.size l
  bb : bs.Pairwise fun p q => p.1 ≠ q.1
  cc : cs.Pairwise FarL
  br : ∀ p ∈ bs, ∀ l ∈ cs, ∀ q ∈ l, Far (some p.1) q.1.ownBlock
section
variable {w0 w w' : World} {bs : List (Nat × List Value)} {cs : List Chunk}
theorem St.start (w : World) : St w w [] [] := ⟨Below.refl _ _, by simp, by simp, .nil, .nil, by simp⟩
theorem St.size (h : St w0 w bs cs) : w0.heap.size ≤ w.heap.size := h.below.size
theorem St.held (h : St w0 w bs cs) (k : Nat) {b : Nat} {vs : List Value} (e : bs[k]? = some (b, vs)) : HeldL w b vs := (h.box _ (List.mem_of_getElem? e)).1
theorem St.cell (h : St w0 w bs cs) (k j : Nat) {b : Nat} {vs : List Value} {v : Value} (e : bs[k]? = some (b, vs)) (e2 : vs[j]? = some v) : w.cell? ⟨b, j, none⟩ = some v := (h.held k e).cell j v e2
theorem St.froz (h : St w0 w bs cs) (k j : Nat) {b : Nat} {vs : List Value} {v : Value} (e : bs[k]? = some (b, vs)) (e2 : vs[j]? = some v) : w.frozen? ⟨b, j, none⟩ = false := (h.held k e).froz j v e2
theorem St.own (h : St w0 w bs cs) (k : Nat) {l : Chunk} (e : cs[k]? = some l) : Owns w w0.heap.size l := h.row _ (List.mem_of_getElem? e)
theorem St.lt (h : St w0 w bs cs) (k : Nat) {b : Nat} {vs : List Value} (e : bs[k]? = some (b, vs)) : b < w.heap.size := (h.held k e).lt
theorem St.ge (h : St w0 w bs cs) (k : Nat) {b : Nat} {vs : List Value} (e : bs[k]? = some (b, vs)) : w0.heap.size ≤ b := (h.box _ (List.mem_of_getElem? e)).2
theorem St.ne (h : St w0 w bs cs) (i k : Nat) {b c : Nat} {vs us : List Value} (e : bs[i]? = some (b, vs)) (e2 : bs[k]? = some (c, us)) (hik : i ≠ k) : b ≠ c := by
  obtain ⟨h1, g1⟩ := List.getElem?_eq_some_iff.mp e
  obtain ⟨h2, g2⟩ := List.getElem?_eq_some_iff.mp e2
  have P := List.pairwise_iff_getElem.mp h.bb
  rcases Nat.lt_or_gt_of_ne hik with l | l
  · have := P i k h1 h2 l; rw [g1, g2] at this; exact this
  · have := P k i h2 h1 l; rw [g1, g2] at this; exact fun e => this e.symm
theorem St.far (h : St w0 w bs cs) (i k : Nat) {l m : Chunk} (e : cs[i]? = some l) (e2 : cs[k]? = some m) (hik : i ≠ k) : FarL l m := by
  obtain ⟨h1, g1⟩ := List.getElem?_eq_some_iff.mp e
  obtain ⟨h2, g2⟩ := List.getElem?_eq_some_iff.mp e2
  have P := List.pairwise_iff_getElem.mp h.cc
  rcases Nat.lt_or_gt_of_ne hik with l | l
  · have := P i k h1 h2 l; rw [g1, g2] at this; exact this
  · have := P k i h2 h1 l; rw [g1, g2] at this; exact this.symm
theorem St.drew (h : St w0 w bs cs) : St w0 w.drew bs cs := ⟨⟨h.below.os, h.below.tape, h.below.output, h.below.size, h.below.block⟩, fun p hp => ⟨(h.box p hp).1.drew, (h.box p hp).2⟩, fun l hl => h.row l hl, h.bb, h.cc, h.br⟩
/-- A call that turns nothing old. -/
theorem St.call (h : St w0 w bs cs) (hb : Below w.heap.size w w') : St w0 w' bs cs :=
  ⟨h.below.trans (hb.mono h.size), fun p hp => ⟨(h.box p hp).1.after hb, (h.box p hp).2⟩, fun p hp => (h.row p hp).below hb, h.bb, h.cc, h.br⟩
/-- A call that hands back rows in new memory. -/
theorem St.rows {l : Chunk} (h : St w0 w bs cs) (ho : Owns w' w.heap.size l) (hb : Below w.heap.size w w') : St w0 w' bs (l :: cs) := by
  have h' := h.call hb
  refine ⟨h'.below, h'.box, fun m hm => ?_, h'.bb, List.pairwise_cons.mpr ⟨fun m hm => (h.row m hm).newer ho (Nat.le_refl _), h'.cc⟩, fun p hp m hm q hq => ?_⟩
  · rcases List.mem_cons.mp hm with rfl | a
    · exact ho.based h.size
    · exact h'.row m a
  · rcases List.mem_cons.mp hm with rfl | a
    · intro k e1 e2
      have a := ((ho.1 q hq).lt k e2).1
      have b := (h.box p hp).1.lt
      obtain rfl : p.1 = k := by simpa using e1
      omega
    · exact h'.br p hp m a q hq
/-- One chunk taken for two. -/
theorem St.split {l m : Chunk} (h : St w0 w bs ((l ++ m) :: cs)) : St w0 w bs (l :: m :: cs) := by
  have ho := h.row (l ++ m) (by simp)
  have hc := List.pairwise_cons.mp h.cc
  refine ⟨h.below, h.box, fun q hq => ?_, h.bb, List.pairwise_cons.mpr ⟨fun q hq => ?_, List.pairwise_cons.mpr ⟨fun q hq p hp => hc.1 q hq p (by simp [hp]), hc.2⟩⟩, fun p hp q hq => ?_⟩
  · simp only [List.mem_cons] at hq
    rcases hq with rfl | rfl | a
    · exact ho.left
    · exact ho.right
    · exact h.row q (by simp [a])
  · rcases List.mem_cons.mp hq with rfl | a
    · exact ho.far
    · exact fun p hp => hc.1 q a p (by simp [hp])
  · simp only [List.mem_cons] at hq
    rcases hq with rfl | rfl | a
    · exact fun r hr => h.br p hp (q ++ m) (by simp) r (by simp [hr])
    · exact fun r hr => h.br p hp (l ++ q) (by simp) r (by simp [hr])
    · exact h.br p hp q (by simp [a])
/-- A block that is made. -/
theorem St.alloc (h : St w0 w bs cs) (vs : List Value) (T : TypeId) : St w0 (w.alloc (.cells vs.toArray T)) ((w.heap.size, vs) :: bs) cs := by
  have hb : Below w.heap.size w (w.alloc (.cells vs.toArray T)) := (Below.refl _ w).alloc (Nat.le_refl _) _
  have h' := h.call hb
  refine ⟨h'.below, ?_, h'.row, List.pairwise_cons.mpr ⟨fun p hp => ?_, h.bb⟩, h.cc, ?_⟩
  · intro p hp
    rcases List.mem_cons.mp hp with rfl | a
    · exact ⟨HeldL.new w vs T, h.size⟩
    · exact h'.box p a
  · have := (h.box p hp).1.lt
    exact fun e => by simp only at e; omega
  · intro p hp m hm q hq
    rcases List.mem_cons.mp hp with rfl | a
    · intro k e1 e2
      have := (((h.row m hm).1 q hq).lt k e2).2
      simp only [Option.some.injEq] at e1
      omega
    · exact h.br p a m hm q hq
theorem St.alloc_at (h : St w0 w bs cs) {b : Nat} (vs : List Value) (T : TypeId) (e : w.heap.size = b) : St w0 (w.alloc (.cells vs.toArray T)) ((b, vs) :: bs) cs := e ▸ h.alloc vs T
/-- A block that is made, set down behind the others. -/
theorem St.allocE (h : St w0 w bs cs) (vs : List Value) (T : TypeId) : St w0 (w.alloc (.cells vs.toArray T)) (bs ++ [(w.heap.size, vs)]) cs := by
  have h' := h.alloc vs T
  have hp : ((w.heap.size, vs) :: bs).Perm (bs ++ [(w.heap.size, vs)]) := (List.perm_append_singleton (w.heap.size, vs) bs).symm
  exact ⟨h'.below, fun p hp' => h'.box p (hp.symm.subset hp'), h'.row, (hp.pairwise_iff (fun {p q} (e : p.1 ≠ q.1) => e.symm)).mp h'.bb, h'.cc, fun p hp' => h'.br p (hp.symm.subset hp')⟩
/-- A block that something else has made. -/
theorem St.boxed {b : Nat} {vs : List Value} (h : St w0 w bs cs) (hb : Below w.heap.size w w') (hk : HeldL w' b vs) (hl : w.heap.size ≤ b) : St w0 w' ((b, vs) :: bs) cs := by
  have h' := h.call hb
  have hs := h.size
  refine ⟨h'.below, ?_, h'.row, List.pairwise_cons.mpr ⟨fun p hp => ?_, h.bb⟩, h.cc, ?_⟩
  · intro p hp
    rcases List.mem_cons.mp hp with rfl | a
    · exact ⟨hk, Nat.le_trans hs hl⟩
    · exact h'.box p a
  · have := (h.box p hp).1.lt
    exact fun e => by simp only at e; omega
  · intro p hp m hm q hq
    rcases List.mem_cons.mp hp with rfl | a
    · intro k e1 e2
      have := (((h.row m hm).1 q hq).lt k e2).2
      simp only [Option.some.injEq] at e1
      omega
    · exact h.br p a m hm q hq
/-- Blocks turned: each block and each chunk is either far from them or given anew. -/
theorem St.turned {bl : List (Option Nat)} {bs' : List (Nat × List Value)} {cs' : List Chunk} (h : St w0 w bs cs) (ht : Turned w w' bl) (hbl : ∀ k, some k ∈ bl → w0.heap.size ≤ k)
    (eb : bs'.map Prod.fst = bs.map Prod.fst) (ec : cs'.map (fun l => l.map Prod.fst) = cs.map fun l => l.map Prod.fst)
    (hb : ∀ p ∈ bs', HeldL w' p.1 p.2) (hc : ∀ l ∈ cs', Owns w' w0.heap.size l) : St w0 w' bs' cs' := by
  refine ⟨ht.below h.below h.size hbl, fun p hp => ⟨hb p hp, ?_⟩, hc, ?_, ?_, ?_⟩
  · have : p.1 ∈ bs.map Prod.fst := by rw [← eb]; exact List.mem_map_of_mem hp
    obtain ⟨q, hq, e⟩ := List.mem_map.mp this
    rw [← e]; exact (h.box q hq).2
  · have := h.bb
    rw [← List.pairwise_map (f := Prod.fst) (R := fun a b => a ≠ b)] at this ⊢
    rw [eb]; exact this
  · have P : (cs.map fun l => l.map Prod.fst).Pairwise fun l m => ∀ p ∈ l, ∀ q ∈ m, Far (Value.ownBlock p) (Value.ownBlock q) := by
      rw [List.pairwise_map]
      exact h.cc.imp fun {l m} (hf : FarL l m) p hp q hq => by
        obtain ⟨p', hp', rfl⟩ := List.mem_map.mp hp
        obtain ⟨q', hq', rfl⟩ := List.mem_map.mp hq
        exact hf p' hp' q' hq'
    rw [← ec, List.pairwise_map] at P
    refine P.imp fun {l m} hf => ?_
    intro p hp q hq
    exact hf p.1 (List.mem_map_of_mem hp) q.1 (List.mem_map_of_mem hq)
  · intro p hp l hl q hq
    have a : p.1 ∈ bs.map Prod.fst := by rw [← eb]; exact List.mem_map_of_mem hp
    obtain ⟨p', hp', e⟩ := List.mem_map.mp a
    have b : l.map Prod.fst ∈ cs.map (fun l => l.map Prod.fst) := by rw [← ec]; exact List.mem_map_of_mem (f := fun l : Chunk => l.map Prod.fst) hl
    obtain ⟨l', hl', e'⟩ := List.mem_map.mp b
    have c : q.1 ∈ l'.map Prod.fst := by rw [e']; exact List.mem_map_of_mem hq
    obtain ⟨q', hq', e''⟩ := List.mem_map.mp c
    rw [← e, ← e'']
    exact h.br p' hp' l' hl' q' hq'
theorem getElem?_set_cases {α : Type} {l : List α} {k i : Nat} {x y : α} (h : (l.set k x)[i]? = some y) : (i = k ∧ y = x) ∨ (i ≠ k ∧ l[i]? = some y) := by
  rw [List.getElem?_set] at h
  by_cases e : k = i
  · rw [if_pos e] at h
    split at h
    · exact .inl ⟨e.symm, (Option.some.inj h).symm⟩
    · simp at h
  · rw [if_neg e] at h
    exact .inr ⟨fun q => e q.symm, h⟩
theorem map_set_same {α β : Type} (f : α → β) {l : List α} {k : Nat} {x y : α} (e : l[k]? = some x) (hf : f y = f x) : (l.set k y).map f = l.map f := by
  rw [List.map_set, hf]
  apply List.ext_getElem?
  intro i
  rw [List.getElem?_set]
  split
  · rename_i h; subst h
    have hk := (List.getElem?_eq_some_iff.mp e).1
    simp [hk]
    have := (List.getElem?_eq_some_iff.mp e).2
    rw [this]
  · rfl
/-- A cell of a block is written. -/
theorem St.set (h : St w0 w bs cs) (k j : Nat) {b : Nat} {vs : List Value} {u : Value} (v : Value) (e : bs[k]? = some (b, vs)) (e2 : vs[j]? = some u) : St w0 (w.setCell ⟨b, j, none⟩ v) (bs.set k (b, vs.set j v)) cs := by
  have ht : Turned w (w.setCell ⟨b, j, none⟩ v) [some b] := ⟨rfl, rfl, rfl, by simp, fun q hq hne => Below.heap_setCell w ⟨b, j, none⟩ v q (fun e => hne (by simp [e]))⟩
  refine h.turned ht ?_ (map_set_same _ e rfl) rfl ?_ ?_
  · intro q hq
    simp only [List.mem_singleton, Option.some.injEq] at hq
    rw [hq]; exact h.ge k e
  · intro p hp
    obtain ⟨i, hi⟩ := List.mem_iff_getElem?.mp hp
    rcases getElem?_set_cases hi with ⟨_, rfl⟩ | ⟨ik, e3⟩
    · exact (h.held k e).set j v u e2
    · exact (h.held i (b := p.1) (vs := p.2) e3).setOther (p := ⟨b, j, none⟩) (h.ne i k (b := p.1) (vs := p.2) e3 e ik) v
  · intro l hl
    refine ⟨fun p hp => ht.own ((h.row l hl).1 p hp) ?_, (h.row l hl).2⟩
    intro x hx
    simp only [List.mem_singleton] at hx
    rw [hx]
    exact (h.br _ (List.mem_of_getElem? e) l hl p hp).symm
/-- Cells written one behind the other. -/
def setCells (w : World) (b : Nat) : Nat → List Value → World
  | _, [] => w
  | j, v :: r => setCells (w.setCell ⟨b, j, none⟩ v) b (j + 1) r
theorem St.setSeg {X old us rest : List Value} {b m k : Nat} (h : St w0 w bs cs) (e : bs[k]? = some (b, X ++ (old ++ rest))) (hX : X.length = m) (hl : us.length = old.length) : St w0 (setCells w b m us) (bs.set k (b, X ++ (us ++ rest))) cs := by
  induction us generalizing w X old m bs with
  | nil =>
    obtain rfl : old = [] := List.eq_nil_of_length_eq_zero (by simpa using hl.symm)
    have : bs.set k (b, X ++ ([] ++ rest)) = bs := by
      apply List.ext_getElem?
      intro i
      rw [List.getElem?_set]
      split
      · rename_i hk; subst hk
        rw [e]; simp [(List.getElem?_eq_some_iff.mp e).1]
      · rfl
    rw [this]; exact h
  | cons v r ih =>
    cases old with
    | nil => simp at hl
    | cons u old =>
      subst hX
      have h1 := h.set k X.length (u := u) v e (by simp)
      have e1 : (X ++ (u :: old ++ rest)).set X.length v = (X ++ [v]) ++ (old ++ rest) := by simp
      rw [e1] at h1
      have hk := (List.getElem?_eq_some_iff.mp e).1
      have h2 := ih (X := X ++ [v]) (old := old) (m := X.length + 1) h1 (by simp [hk]) (by simp) (by simpa using hl)
      rw [List.set_set] at h2
      simpa [setCells] using h2
/-- A block is written whole. -/
theorem St.setAll (h : St w0 w bs cs) (k : Nat) {b : Nat} {vs : List Value} (us : List Value) (e : bs[k]? = some (b, vs)) (hl : us.length = vs.length) : St w0 (setCells w b 0 us) (bs.set k (b, us)) cs := by
  have := h.setSeg (X := []) (old := vs) (us := us) (rest := []) (m := 0) (k := k) (b := b) (by simpa using e) rfl hl
  simpa using this
/-- The rows of one chunk are written anew. -/
theorem St.mark (h : St w0 w bs cs) (k : Nat) {l l' : Chunk} (e : cs[k]? = some l) (hf : l'.map Prod.fst = l.map Prod.fst) (ho : Owns w' w0.heap.size l') (ht : Turned w w' (blks l)) : St w0 w' bs (cs.set k l') := by
  have hm := List.mem_of_getElem? e
  refine h.turned ht ?_ rfl (map_set_same _ e hf) ?_ ?_
  · intro q hq
    obtain ⟨p, hp, e2⟩ := List.mem_map.mp hq
    exact (((h.row l hm).1 p hp).lt q e2).1
  · intro p hp
    refine ht.held (h.box p hp).1 fun hx => ?_
    obtain ⟨q, hq, e2⟩ := List.mem_map.mp hx
    exact h.br p hp l hm q hq p.1 rfl e2
  · intro m hm'
    obtain ⟨i, hi⟩ := List.mem_iff_getElem?.mp hm'
    rcases getElem?_set_cases hi with ⟨_, rfl⟩ | ⟨ik, e3⟩
    · exact ho
    · have hM := List.mem_of_getElem? e3
      have hfar := h.far i k e3 e ik
      refine ⟨fun p hp => ht.own ((h.row m hM).1 p hp) fun x hx => ?_, (h.row m hM).2⟩
      obtain ⟨q, hq, rfl⟩ := List.mem_map.mp hx
      exact hfar p hp q hq
/-- Fewer blocks and chunks. -/
theorem St.sub {bs' : List (Nat × List Value)} {cs' : List Chunk} (h : St w0 w bs cs) (hb : bs'.Sublist bs) (hr : cs'.Sublist cs) : St w0 w bs' cs' :=
  ⟨h.below, fun p hp => h.box p (hb.subset hp), fun p hp => h.row p (hr.subset hp), h.bb.sublist hb, h.cc.sublist hr, fun p hp q hq => h.br p (hb.subset hp) q (hr.subset hq)⟩
theorem St.drop (h : St w0 w bs cs) (k : Nat) : St w0 w bs (cs.eraseIdx k) := h.sub (List.Sublist.refl _) (List.eraseIdx_sublist _ _)
theorem St.dropBox (h : St w0 w bs cs) (k : Nat) : St w0 w (bs.eraseIdx k) cs := h.sub (List.eraseIdx_sublist _ _) (List.Sublist.refl _)
/-- Some of the chunks, in any order, as one. -/
theorem St.pick (h : St w0 w bs cs) (is : List Nat) (ls : List Chunk) (hn : is.Nodup) (hl : is.map (fun i => cs[i]?) = ls.map some) : Owns w w0.heap.size ls.flatten := by
  have hlen : is.length = ls.length := by simpa using congrArg List.length hl
  have G : ∀ m (h1 : m < is.length) (h2 : m < ls.length), cs[is[m]]? = some ls[m] := by
    intro m h1 h2
    have := congrArg (fun q => q[m]?) hl
    simpa [h1, h2] using this
  refine ⟨fun p hp => ?_, ?_⟩
  · obtain ⟨l, hl1, hp1⟩ := List.mem_flatten.mp hp
    obtain ⟨m, hm, rfl⟩ := List.getElem_of_mem hl1
    exact (h.own _ (G m (by omega) hm)).1 p hp1
  · rw [List.pairwise_flatten]
    refine ⟨fun l hl1 => ?_, ?_⟩
    · obtain ⟨m, hm, rfl⟩ := List.getElem_of_mem hl1
      exact (h.own _ (G m (by omega) hm)).2
    · rw [List.pairwise_iff_getElem]
      intro i j hi hj ij
      have hne : is[i]'(by omega) ≠ is[j]'(by omega) := fun e => by
        have := (List.getElem_inj hn).mp e
        omega
      exact h.far _ _ (G i (by omega) hi) (G j (by omega) hj) hne
/-- Rows of no memory. -/
theorem Owns.nils (w : World) (base n : Nat) : Owns w base (List.replicate n (.slice none 0 0, [])) := by
  refine ⟨fun p hp => ?_, ?_⟩
  · rw [(List.mem_replicate.mp hp).2]; exact OwnV.nil _ _ _
  · rw [List.pairwise_replicate]
    exact .inr fun k h1 => by simp [Value.ownBlock] at h1
theorem St.nils (h : St w0 w bs cs) (n : Nat) : St w0 w bs (List.replicate n (.slice none 0 0, []) :: cs) := by
  have F : ∀ q ∈ List.replicate n ((.slice none 0 0 : Value), ([] : List Value)), ∀ k, q.1.ownBlock ≠ some k := by
    intro q hq k
    rw [(List.mem_replicate.mp hq).2]; simp [Value.ownBlock]
  refine ⟨h.below, h.box, fun l hl => ?_, h.bb, List.pairwise_cons.mpr ⟨fun l hl p hp q hq k e1 e2 => F p hp k e1, h.cc⟩, fun p hp l hl q hq => ?_⟩
  · rcases List.mem_cons.mp hl with rfl | a
    · exact Owns.nils _ _ _
    · exact h.row l a
  · rcases List.mem_cons.mp hl with rfl | a
    · exact fun k e1 e2 => F q hq k e2
    · exact h.br p hp l a q hq
end
/-- A slice value that may be read as the cells X. -/
def ArgV (w : World) (v : Value) (X : List Value) : Prop := ∃ A n c, v = .slice A n c ∧ Arg w A n c X
theorem OwnV.argV {w : World} {base : Nat} {e : TypeId} {v : Value} {X : List Value} (h : OwnV w base e v X) : ArgV w v X := by
  obtain ⟨A, c, rfl⟩ := h.shape
  exact ⟨A, _, c, rfl, h.arg⟩
theorem ArgV.below {w w' : World} {v : Value} {X : List Value} (h : ArgV w v X) (hb : Below w.heap.size w w') : ArgV w' v X := by
  obtain ⟨A, n, c, rfl, h⟩ := h
  exact ⟨A, n, c, rfl, h.below hb (Nat.le_refl _)⟩
theorem Owns.argV {w : World} {base : Nat} {l : Chunk} (h : Owns w base l) (k : Nat) {v : Value} {X : List Value} (e : l[k]? = some (v, X)) : ArgV w v X := (h.at_ k e).argV
end Go.Proofs.Ytdilbhkdkppodaa
