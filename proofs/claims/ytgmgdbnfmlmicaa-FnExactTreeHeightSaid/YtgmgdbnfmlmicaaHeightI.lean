/- The program's TreeHeight. Conditions: none. -/
import Derived.Test.YtgmgdbnfmlmicaaHelpI
import Derived.Test.YtgmgdbnfmlmicaaBackward
import Derived.Test.YtgmgdbnfmlmicaaRound
namespace Go.Proofs.Ytgmgdbnfmlmicaa
open Go.RowKit Go.Shelf
set_option linter.unusedVariables false
attribute [local go_sem] Oper.semAt_some

theorem wpListIn_make_full {F : Fence} {n' : Nat} {P : Program} (w : World) {ops : Array Oper} {rest : List Oper} {o : Oper} {a : Act} {Q : Exit → Act → World → Prop}
    (hg : o.guard = none) (l c : Operand) (t : TypeId) (hop : o.op = Op.makeSlice t l c)
    (base : Nat) (e : TypeId) (i : TypeInfo) (z : Value) (size : Nat) (h1 : P.underlying t = some (.slice e)) (h2 : P.info? e = some i) (h3 : i.zero = some z) (h4 : i.size = size)
    (kl kc : IntKind) (L C : Int) (n : Nat) (hl : a.eval l = .int kl L) (hc : a.eval c = .int kc C) (hL : L = (n : Int)) (hC : C = (n : Int)) (b2 : i.bytes * n ≤ 281474976710656) (b3 : n ≤ maxLen) (b4 : base ≤ w.heap.size)
    (hK : ∀ w', w'.ownsRow base e size (.slice (some ⟨w.heap.size, 0, none⟩) n n) n (madeCells z.cells (n * size)).toList → w.grownBy w' none → wpListIn F n' P ops Q rest (a.put o.dst (.slice (some ⟨w.heap.size, 0, none⟩) n n)) w') :
    wpListIn F n' P ops Q (o :: rest) a w := by
  refine wpListIn_plain hg fun K hK' => ?_
  obtain ⟨w', hrun, r1, r2⟩ := run_make_full (P := P) w base t e i z size h1 h2 h3 h4 kl kc n b2 b3 b4
  subst hL
  subst hC
  unfold Oper.wpIn
  refine ⟨?_, ?_⟩
  · simp [Oper.about, hop]
  · rw [Oper.semAt_plain F _ _ (by rw [hop]; intro c hc'; cases hc')]
    simp [execOp, hop, hl, hc, hrun, Result.andThen]
    exact hK' _ _ (hK w' r1 r2)
/-- What lies between two rounds: the heights as they have been computed so far, beside the boxes. -/
structure HSt (w0 W : World) (os us : List Int) (Bo Br Bg Bh H n c : Nat) (A : Option Addr) (hs : List Int) (g : Int) : Prop where
  order : Boxed W Bo 22 (.slice A n c)
  ans : Boxed W Br 3 (.int .i64 0)
  most : Boxed W Bg 3 (.int .i64 g)
  box : Boxed W Bh 22 (.slice (some ⟨H, 0, none⟩) n n)
  row : W.ownsRow w0.heap.size 3 1 (.slice (some ⟨H, 0, none⟩) n n) n (ints hs)
  below : Below w0.heap.size w0 W
  ne : Bo ≠ H ∧ Br ≠ H ∧ Bg ≠ H ∧ Bh ≠ H ∧ Bo ≠ Bg ∧ Br ≠ Bg ∧ Bh ≠ Bg
  lo : w0.heap.size ≤ Bg ∧ w0.heap.size ≤ H
theorem HSt.own {β : Type} {w0 : World} {os us : List Int} {Bo Br Bg Bh H n c B : Nat} {A : Option Addr} (hs : β → List Int) (g : β → Int) (hB : w0.heap.size ≤ B) : OwnFrom B (fun (s : β) W => HSt w0 W os us Bo Br Bg Bh H n c A (hs s) (g s)) := by
  intro s X Y row h hg hr
  have nb : ∀ {Q : Nat} {t : TypeId} {v : Value}, Boxed X Q t v → some Q ≠ row := fun {Q t v} hv e' => by
    obtain ⟨o, ho, hc⟩ := (hr Q e'.symm).2
    rw [show X.heap[Q]? = _ from hv] at ho; cases ho; cases hc
  refine ⟨h.order.kept hg (nb h.order), h.ans.kept hg (nb h.ans), h.most.kept hg (nb h.most), h.box.kept hg (nb h.box), h.row.kept hg (.inr fun e' => ?_), h.below.grown hg h.below.size (fun k e => Nat.le_trans hB (hr k e).1), h.ne, h.lo⟩
  rcases h.row.2 with ⟨hv, _⟩ | ⟨b, cap, cur, hv, _, hgb, _⟩
  · simp at hv
  · obtain ⟨rfl, rfl⟩ : H = b ∧ n = cap := by simpa using hv
    obtain ⟨o, ho, hc⟩ := (hr H (by rw [← e']; rfl)).2
    rw [hgb] at ho; cases ho; cases hc
/-- What lies behind a round that ends it all. -/
def HEnd (w0 W : World) (Br : Nat) : Prop := Boxed W Br 3 (.int .i64 0) ∧ Below w0.heap.size w0 W
theorem HEnd.own {β : Type} {w0 : World} {Br B : Nat} (hB : w0.heap.size ≤ B) : OwnFrom B (fun (_ : β) W => HEnd w0 W Br) := by
  intro s X Y row h hg hr
  refine ⟨h.1.kept hg (fun e' => ?_), h.2.grown hg h.2.size (fun k e => Nat.le_trans hB (hr k e).1)⟩
  obtain ⟨o, ho, hc⟩ := (hr Br e'.symm).2
  rw [show X.heap[Br]? = _ from h.1] at ho; cases ho; cases hc
theorem VRow.dropA {w : World} {g o n m : Nat} {xs : List Value} (h : VRow w (some ⟨g, o, none⟩) n xs) (hm : m ≤ n) : VRow w (some ⟨g, o + m, none⟩) (n - m) (xs.drop m) := by
  refine ⟨by rw [List.length_drop, h.1], fun hp => ?_⟩
  obtain ⟨g', o', e, hg, hc⟩ := h.2 (by omega)
  cases e
  refine ⟨g, o + m, rfl, hg, fun k hk => ?_⟩
  rw [List.getElem?_drop, ← hc (m + k) (by omega), Nat.add_assoc]
theorem HSt.set {w0 W : World} {os us : List Int} {Bo Br Bg Bh H n c : Nat} {A : Option Addr} {hs : List Int} {g : Int} (h : HSt w0 W os us Bo Br Bg Bh H n c A hs g) (i : Nat) (v : Int) : HSt w0 (W.setCell ⟨H, i, none⟩ (.int .i64 v)) os us Bo Br Bg Bh H n c A (hs.set i v) g := by
  obtain ⟨n1, n2, n3, n4, _⟩ := h.ne
  have hs := World.ownsRow.stored h.row i (.int .i64 v)
  refine ⟨h.order.kept hs.2 (by simp; omega), h.ans.kept hs.2 (by simp; omega), h.most.kept hs.2 (by simp; omega), h.box.kept hs.2 (by simp; omega), ?_, h.below.grown hs.2 h.below.size (fun k e => by cases e; exact h.lo.2), h.ne, h.lo⟩
  have := hs.1
  simpa [ints, List.map_set] using this
theorem HSt.setG {w0 W : World} {os us : List Int} {Bo Br Bg Bh H n c : Nat} {A : Option Addr} {hs : List Int} {g : Int} (h : HSt w0 W os us Bo Br Bg Bh H n c A hs g) (v : Int) : HSt w0 (W.setCell ⟨Bg, 0, none⟩ (.int .i64 v)) os us Bo Br Bg Bh H n c A hs v := by
  obtain ⟨n1, n2, n3, n4, n5, n6, n7⟩ := h.ne
  have hg := grownBy_setCell' W Bg (.int .i64 v)
  exact ⟨h.order.kept hg (by simp; omega), h.ans.kept hg (by simp; omega), h.most.set _, h.box.kept hg (by simp; omega), h.row.kept hg (.inr (by simp [Value.ownBlock]; omega)), h.below.grown hg h.below.size (fun k e => by cases e; exact h.lo.1), h.ne, h.lo⟩
theorem HSt.drew {w0 W : World} {os us : List Int} {Bo Br Bg Bh H n c : Nat} {A : Option Addr} {hs : List Int} {g : Int} (h : HSt w0 W os us Bo Br Bg Bh H n c A hs g) : HSt w0 W.drew os us Bo Br Bg Bh H n c A hs g := ⟨h.order, h.ans, h.most, h.box, h.row, ⟨h.below.os, h.below.tape, h.below.output, h.below.size, h.below.block⟩, h.ne, h.lo⟩
theorem HSt.cell {w0 W : World} {os us : List Int} {Bo Br Bg Bh H n c : Nat} {A : Option Addr} {hs : List Int} {g : Int} (h : HSt w0 W os us Bo Br Bg Bh H n c A hs g) (hl : hs.length = n) {j : Nat} (hj : j < n) : W.cell? ⟨H, j, none⟩ = some (.int .i64 (hs[j]?.getD 0)) := by
  rw [World.ownsRow.cellAt h.row j (by omega)]
  simp [ints, hl, hj]
set_option maxRecDepth 100000 in
set_option maxHeartbeats 4000000 in
theorem treeHeight_i (A U : Option Addr) (n m c d : Nat) (os us : List Int) (w : World) (hA : VRow w A n (ints os)) (hU : VRow w U m (ints us)) (hnc : n ≤ c) (hc : c ≤ maxLen) (hm : m ≤ 1048576) (hn : n ≤ 1048576) :
    Calls Try.prog 6 #[.slice A n c, .slice U m d] w fun e w' => e = .returned (.int .i64 (treeH os us)) ∧ Below w.heap.size w w' := by
  have HL := Lib.hid (show os.length = n by simpa [ints] using hA.1)
  have HM := Lib.hid (show us.length = m by simpa [ints] using hU.1)
  by_cases hok : n = m ∧ n ≤ 10
  · obtain ⟨rfl, h10⟩ := hok
    have hgn : ((n : Int) == (n : Int)) = true := by simp
    refine (callsIn_wide (n := 5)).1 ?_
    refine callsIn_of_wp_marks Try.func6 rfl trivial ?_ rfl
    simp only [Try.ntmps6, List.size_toArray, List.length_cons, List.length_nil, Nat.reduceAdd, Nat.reduceSub, Array.replicate_succ, Array.replicate_zero, List.push_toArray, List.append_toArray, List.nil_append, List.cons_append]
    obtain ⟨i0, hi, hz0, hz1, hz2⟩ := info_parts info_int
    gi_wp2_with (first
      | (gi_at_make; refine wpListIn_make_full _ rfl _ _ _ rfl w.heap.size 3 i0 _ 1 Try.underlying22 hi hz0 hz1 .i64 .i64 _ _ n rfl rfl rfl rfl (by rw [hz2]; omega) (by unfold maxLen; omega) (by simp; omega) ?_; intro w1 hown hgrow)
      | (refine ⟨trivial, ?_⟩; gi_at_call 8; refine (callsIn_wide.2 (backward_f _ _ _ _)).mono ?_; rintro e w2 ⟨rfl, rfl⟩))
    simp only [World.size_alloc] at hown
    obtain ⟨H, hH⟩ : ∃ H, w.heap.size + 1 + 1 + 1 = H := ⟨_, rfl⟩
    obtain ⟨Q, hQ⟩ : ∃ Q, w1.heap.size = Q := ⟨_, rfl⟩
    have hrow0 : (madeCells (Value.int IntKind.i64 0).cells (n * 1)).toList = ints (List.replicate n 0) := by
      simp [madeCells, ints, Value.cells, Nat.mod_one, List.map_const']
    rw [hrow0, hH] at hown
    have hQs : H < Q := by have := (hown.lt H rfl).2; omega
    have b0 := Boxed.new w 22 (.slice A n c)
    have b1 := Boxed.new (w.alloc (.cells #[.slice A n c] 22)) 3 (.int .i64 0)
    have b2 := Boxed.new ((w.alloc (.cells #[.slice A n c] 22)).alloc (.cells #[.int .i64 0] 3)) 3 (.int .i64 0)
    simp only [World.size_alloc] at b1 b2
    have c0 := ((b0.alloc (.cells #[.int .i64 0] 3)).alloc (.cells #[.int .i64 0] 3)).kept hgrow (by simp)
    have c1 := (b1.alloc (.cells #[.int .i64 0] 3)).kept hgrow (by simp)
    have c2 := b2.kept hgrow (by simp)
    have hB1 : Below w.heap.size w w1 := ((((Below.refl _ w).alloc (Nat.le_refl _) _).alloc (by simp) _).alloc (by simp; omega) _).grown hgrow (by simp; omega) (fun k e => by cases e)
    have b3 := Boxed.new w1 22 (.slice (some ⟨H, 0, none⟩) n n)
    have b4 := Boxed.new (w1.alloc (.cells #[.slice (some ⟨H, 0, none⟩) n n] 22)) 22 (.slice U n d)
    simp only [World.size_alloc] at b4
    rw [hQ] at b3 b4
    simp only [hH, hQ]
    have hg4 : w1.grownBy ((w1.alloc (.cells #[.slice (some ⟨H, 0, none⟩) n n] 22)).alloc (.cells #[.slice U n d] 22)) none := (World.grownBy_alloc w1 _ none).trans (World.grownBy_alloc _ _ none)
    have hsz : ((w1.alloc (.cells #[.slice (some ⟨H, 0, none⟩) n n] 22)).alloc (.cells #[.slice U n d] 22)).heap.size = Q + 2 := by simp [hQ]
    obtain ⟨W2, hW2⟩ : ∃ W2, (w1.alloc (.cells #[.slice (some ⟨H, 0, none⟩) n n] 22)).alloc (.cells #[.slice U n d] 22) = W2 := ⟨_, rfl⟩
    have hS0 : HSt w W2 os us w.heap.size (w.heap.size + 1) (w.heap.size + 1 + 1) Q H n c A (List.replicate n 0) 0 := by
      rw [← hW2]
      exact ⟨c0.kept hg4 (by simp), c1.kept hg4 (by simp), c2.kept hg4 (by simp), b3.alloc _, hown.kept hg4 (.inr (by simp [Value.ownBlock])), hB1.grown hg4 hB1.size (fun k e => by cases e), by omega, by omega⟩
    rw [hW2] at b4 hsz ⊢
    clear b0 b1 b2 b3 c0 c1 c2 hown hgrow hg4 hi hz0 hz1 hz2 hrow0 hB1
    have HH := Lib.hid hH
    have HQ := Lib.hid hQ
    clear hH hQ hW2
    refine wpIn_rangeFunc_ownF rfl (by decide) (gf := 10) (lb := #[.pointer (some ⟨Q + 1, 0, none⟩)]) rfl trivial (enters_of Try.func10 (by kernel_rfl) rfl)
      (backward_stops Fence.wide 4 trivial rfl (by decide) (Q + 1) w.heap.size U n d us hn W2 (by omega) (by have := hS0.below.size; omega) b4.cell (hU.below hS0.below (Nat.le_refl _)) (fun h0 a e => by
        subst e
        obtain ⟨g, o, e2, hg, _⟩ := hU.2 h0
        cases e2; exact hg)) kpB_t (kpB_b (by have := hS0.below.size; omega) (by omega)) (Below.refl _ _) (fun _ => rfl)
      (fun pre W => ∃ hs g, hFold os us (pre.map Fin.val) = some (hs, g) ∧ HSt w W os us w.heap.size (w.heap.size + 1) (w.heap.size + 1 + 1) Q H n c A hs g)
      (fun cd pre W => cd = .ret ∧ hFold os us (pre.map Fin.val) = none ∧ HEnd w W (w.heap.size + 1))
      (fun s X Y row ⟨hs, g, e, h⟩ hg hr => ⟨hs, g, e, HSt.own (fun _ : Unit => hs) (fun _ => g) (by have := hS0.below.size; omega) () X Y row h hg hr⟩)
      (fun cd s X Y row ⟨e1, e, h⟩ hg hr => ⟨e1, e, HEnd.own (β := Unit) (by have := hS0.below.size; omega) () X Y row h hg hr⟩)
      ⟨_, _, by rw [← HL.out]; rfl, hS0⟩
      (fun x => { tmps := #[.slice A n c, .slice U n d, .pointer (some ⟨w.heap.size, 0, none⟩), undef, .pointer (some ⟨w.heap.size + 1, 0, none⟩), .pointer (some ⟨w.heap.size + 1 + 1, 0, none⟩), .pointer (some ⟨Q, 0, none⟩), .int .i64 (x.val : Int), .int .i64 (us[x.val]?.getD 0), undef, .slice A n c, .int .i64 (n : Int), .slice U n d, .int .i64 (n : Int), .bool false, .bool false, .slice A n c, .int .i64 (n : Int), .bool (decide ((10 : Int) < (n : Int))), .bool (decide ((10 : Int) < (n : Int))), .slice A n c, .int .i64 (n : Int), .slice (some ⟨H, 0, none⟩) n n, .slice U n d, .func (.func 10) #[] #[.pointer (some ⟨Q + 1, 0, none⟩)], .int .i64 (x.val : Int), .int .i64 (us[x.val]?.getD 0), undef, undef, undef, undef, undef, undef, undef, undef, undef, undef, undef, undef, undef, undef, undef, undef, undef, undef, undef, undef, undef, undef, undef, undef, undef, undef, undef, undef, undef, undef, undef, undef, undef], defers := [] }) ?assign ?body ?done ?stop
    case assign =>
      intro l x W K hK
      gi_wp2
      exact hK
    case body =>
      rintro l pre ⟨i, hi⟩ W ⟨hs, g, hf, hS⟩ hlen
      obtain ⟨hl, hbd, hg0, hg1⟩ := hFold_bound os us _ hs g hf
      rw [HL.out] at hl
      rw [List.length_map] at hbd hg1
      obtain ⟨u, hu⟩ : ∃ u, us[i]?.getD 0 = u := ⟨_, rfl⟩
      simp only [hu]
      have mixed : Try.prog.follows .mixedOrders = true := by kernel_rfl
      have hcB := hS.box.cell
      have hcH := hS.cell hl hi
      have hfH : W.frozen? ⟨H, i, none⟩ = false := World.ownsRow.frozenAt hS.row i
      have hS1 := hS.set i 1
      have hl1 : (hs.set i 1).length = n := by simpa using hl
      have hcB1 := hS1.box.cell
      have hcO1 := hS1.order.cell
      have hcG1 := hS1.most.cell
      have hfG1 := hS1.most.frozen
      have hcH1 : (W.setCell ⟨H, i, none⟩ (.int .i64 1)).cell? ⟨H, i, none⟩ = some (.int .i64 1) := by have := hS1.cell hl1 hi; simpa [hl, hi] using this
      have HS1 := Lib.hid hS1
      have HS := Lib.hid hS
      have HF := Lib.hid hf
      have HBD := Lib.hid hbd
      have HU := Lib.hid hu
      clear hS1 hS hf hbd hu
      have hF' : hFold os us (List.map Fin.val (pre ++ [⟨i, hi⟩])) = hStep os us (some (hs, g)) i := by rw [List.map_append, ← HF.out]; exact hFold_snoc _ _ _ _
      have hug : us.getD i 0 = u := by rw [← HU.out]; simp
      have HF' := Lib.hid hF'
      have HUG := Lib.hid hug
      clear hF' hug
      have NE := Lib.hid (show H ≠ Q + 1 ∧ w.heap.size + 1 + 1 ≠ Q + 1 from ⟨by omega, by have := HH.out; omega⟩)
      by_cases h0 : u = 0
      · subst h0
        gi_wp2
        have hk14 : ∀ v9 : Int, ((W.setCell ⟨H, i, none⟩ (.int .i64 1)).setCell ⟨w.heap.size + 1 + 1, 0, none⟩ (.int .i64 v9)).cell? ⟨Q, 0, none⟩ = some (.slice (some ⟨H, 0, none⟩) n n) ∧ ((W.setCell ⟨H, i, none⟩ (.int .i64 1)).setCell ⟨w.heap.size + 1 + 1, 0, none⟩ (.int .i64 v9)).cell? ⟨H, i, none⟩ = some (.int .i64 1) := fun v9 => ⟨(HS1.out.setG v9).box.cell, by have := (HS1.out.setG v9).cell hl1 hi; simpa [hl, hi] using this⟩
        have HK14 := Lib.hid hk14
        clear hk14
        by_cases hg : g < 1
        · refine wpIn_region_round (by assumption) (by kernel_rfl) (S := (fun w' => w'.cell? ⟨Q, 0, none⟩ = some (.slice (some ⟨H, 0, none⟩) n n) ∧ w'.cell? ⟨H, i, none⟩ = some (.int .i64 1))) ⟨hcB1, hcH1⟩ (fun hHeld => ?_)
          refine tkR 1 ?_ ⟨some 54, .load 22 (.tmp 6), 22, "l10_order.go:78", #[], none⟩ rfl ?_ ?_
          rotate_left
          · intro w9 hSw; (try dsimp only at hSw); go_simp; try with_reducible rfl
          try simp only [pmR, s0R, sSR]
          refine tkR 2 ?_ ⟨some 55, .move (.tmp 7), 3, "l10_order.go:78", #[], none⟩ rfl ?_ ?_
          rotate_left
          · intro w9 hSw; (try dsimp only at hSw); go_simp; try with_reducible rfl
          try simp only [pmR, s0R, sSR]
          refine tkR 3 ?_ ⟨some 56, .indexAddr 22 (.tmp 54) (.tmp 55), 0, "l10_order.go:78", #[⟨1, .data⟩, ⟨2, .data⟩], none⟩ rfl ?_ ?_
          rotate_left
          · intro w9 hSw; (try dsimp only at hSw); go_simp; try with_reducible rfl
          try simp only [pmR, s0R, sSR]
          refine tkR 4 ?_ ⟨some 57, .load 3 (.tmp 56), 3, "l10_order.go:78", #[⟨3, .data⟩], none⟩ rfl ?_ ?_
          rotate_left
          · intro w9 hSw; (try dsimp only at hSw); go_simp; try with_reducible rfl
          try simp only [pmR, s0R, sSR]
          refine wpAnyH_ready (rs := [0]) (by kernel_rfl) (by simp) ?_
          refine AllReadyH.cons (o := ⟨some 53, .load 3 (.tmp 5), 3, "l10_order.go:78", #[], none⟩) rfl (fun K hK => ?_) AllReadyH.nil
          go_simp
          refine hK.out _ _ hHeld (fun hHeld0 => ?_)
          clear hK K
          try simp only [pmR, s0R, sSR]
          refine tkR 5 ?_ ⟨some 58, .call { callee := .builtin .max, args := #[.tmp 53, .tmp 57], argTypes := #[3, 3] }, 3, "l10_order.go:78", #[⟨0, .data⟩, ⟨4, .data⟩], none⟩ rfl ?_ ?_
          rotate_left
          · intro w9 hSw; (try dsimp only at hSw); go_simp; try with_reducible rfl
          try simp only [pmR, s0R, sSR]
          refine wpAnyH_ready (rs := [6]) (by kernel_rfl) (by simp) ?_
          refine AllReadyH.cons (o := ⟨none, .store 3 (.tmp 5) (.tmp 58), 0, "l10_order.go:78", #[⟨5, .data⟩, ⟨0, .phase⟩, ⟨1, .phase⟩, ⟨2, .phase⟩, ⟨3, .phase⟩, ⟨4, .phase⟩, ⟨5, .phase⟩], none⟩) rfl (fun K hK => ?_) AllReadyH.nil
          go_simp
          refine hK.out _ _ (HK14.out _) (fun hHeld6 => ?_)
          clear hK K
          try simp only [pmR, s0R, sSR]
          refine wpAnyH_done (by kernel_rfl) ?_ _
          refine ⟨rfl, ?_⟩
          exact ⟨((KeepsOthers.setCell _ _ _).trans (KeepsOthers.setCell _ _ _)).trans (KeepsOthers.drew _), kpB_drew (kpB_t (kpB_set HS.out.lo.2 NE.out.1 _ _) (kpB_set HS.out.lo.1 NE.out.2 _ _)), hs.set i 1, (1), by rw [HF'.out]; unfold hStep; dsimp only; rw [if_pos HUG.out, if_pos hg], (HS1.out.setG (1)).drew⟩
        · have hgm : 1 ≤ g := by omega
          refine wpIn_region_round (by assumption) (by kernel_rfl) (S := (fun w' => w'.cell? ⟨Q, 0, none⟩ = some (.slice (some ⟨H, 0, none⟩) n n) ∧ w'.cell? ⟨H, i, none⟩ = some (.int .i64 1))) ⟨hcB1, hcH1⟩ (fun hHeld => ?_)
          refine tkR 1 ?_ ⟨some 54, .load 22 (.tmp 6), 22, "l10_order.go:78", #[], none⟩ rfl ?_ ?_
          rotate_left
          · intro w9 hSw; (try dsimp only at hSw); go_simp; try with_reducible rfl
          try simp only [pmR, s0R, sSR]
          refine tkR 2 ?_ ⟨some 55, .move (.tmp 7), 3, "l10_order.go:78", #[], none⟩ rfl ?_ ?_
          rotate_left
          · intro w9 hSw; (try dsimp only at hSw); go_simp; try with_reducible rfl
          try simp only [pmR, s0R, sSR]
          refine tkR 3 ?_ ⟨some 56, .indexAddr 22 (.tmp 54) (.tmp 55), 0, "l10_order.go:78", #[⟨1, .data⟩, ⟨2, .data⟩], none⟩ rfl ?_ ?_
          rotate_left
          · intro w9 hSw; (try dsimp only at hSw); go_simp; try with_reducible rfl
          try simp only [pmR, s0R, sSR]
          refine tkR 4 ?_ ⟨some 57, .load 3 (.tmp 56), 3, "l10_order.go:78", #[⟨3, .data⟩], none⟩ rfl ?_ ?_
          rotate_left
          · intro w9 hSw; (try dsimp only at hSw); go_simp; try with_reducible rfl
          try simp only [pmR, s0R, sSR]
          refine wpAnyH_ready (rs := [0]) (by kernel_rfl) (by simp) ?_
          refine AllReadyH.cons (o := ⟨some 53, .load 3 (.tmp 5), 3, "l10_order.go:78", #[], none⟩) rfl (fun K hK => ?_) AllReadyH.nil
          go_simp
          refine hK.out _ _ hHeld (fun hHeld0 => ?_)
          clear hK K
          try simp only [pmR, s0R, sSR]
          refine tkR 5 ?_ ⟨some 58, .call { callee := .builtin .max, args := #[.tmp 53, .tmp 57], argTypes := #[3, 3] }, 3, "l10_order.go:78", #[⟨0, .data⟩, ⟨4, .data⟩], none⟩ rfl ?_ ?_
          rotate_left
          · intro w9 hSw; (try dsimp only at hSw); go_simp; try with_reducible rfl
          try simp only [pmR, s0R, sSR]
          refine wpAnyH_ready (rs := [6]) (by kernel_rfl) (by simp) ?_
          refine AllReadyH.cons (o := ⟨none, .store 3 (.tmp 5) (.tmp 58), 0, "l10_order.go:78", #[⟨5, .data⟩, ⟨0, .phase⟩, ⟨1, .phase⟩, ⟨2, .phase⟩, ⟨3, .phase⟩, ⟨4, .phase⟩, ⟨5, .phase⟩], none⟩) rfl (fun K hK => ?_) AllReadyH.nil
          go_simp
          refine hK.out _ _ (HK14.out _) (fun hHeld6 => ?_)
          clear hK K
          try simp only [pmR, s0R, sSR]
          refine wpAnyH_done (by kernel_rfl) ?_ _
          refine ⟨rfl, ?_⟩
          exact ⟨((KeepsOthers.setCell _ _ _).trans (KeepsOthers.setCell _ _ _)).trans (KeepsOthers.drew _), kpB_drew (kpB_t (kpB_set HS.out.lo.2 NE.out.1 _ _) (kpB_set HS.out.lo.1 NE.out.2 _ _)), hs.set i 1, g, by rw [HF'.out]; unfold hStep; dsimp only; rw [if_pos HUG.out, if_neg hg], (HS1.out.setG g).drew⟩
      · have h0b : (u != 0) = true := by simpa using h0
        obtain ⟨ga, oa, hAe, hga, _⟩ := hA.at_ hi
        subst hAe
        have hfi : IntKind.i64.wrap ((i : Int) + 1) = ((i + 1 : Nat) : Int) := by rw [IntKind.wrap_i64]; omega
        have hAd := (hA.below HS1.out.below (Nat.le_refl _)).dropA (m := i + 1) (by omega)
        rw [show (ints os).drop (i + 1) = ints (os.drop (i + 1)) from by simp [ints]] at hAd
        have hdl : (os.drop (i + 1)).length = n - (i + 1) := by rw [List.length_drop, HL.out]
        cases hfd : (os.drop (i + 1)).findIdx? (fun x => x == u) with
        | none =>
          have hix : idxI (os.drop (i + 1)) u = -1 := by unfold idxI; rw [hfd]
          have HX := Lib.hid hix
          have HFD := Lib.hid hfd
          clear hix hfd hdl
          have hfR := HS1.out.ans.frozen
          have hcR := HS1.out.ans.cell
          have hfin : hFold os us (List.map Fin.val (pre ++ [⟨i, hi⟩])) = none := by
            rw [HF'.out]; unfold hStep; dsimp only; rw [if_neg (by rw [HUG.out]; exact h0), HUG.out, HFD.out]
          have hend : HEnd w ((W.setCell ⟨H, i, none⟩ (.int .i64 1)).setCell ⟨w.heap.size + 1, 0, none⟩ (.int .i64 0)) (w.heap.size + 1) := ⟨HS1.out.ans.set _, HS1.out.below.setCell (p := ⟨w.heap.size + 1, 0, none⟩) (by simp) _⟩
          by_cases hci : c = i + 1
          · have hne : n = i + 1 := by omega
            have hAe : ∀ A', VRow (W.setCell ⟨H, i, none⟩ (.int .i64 1)) A' 0 (ints (os.drop (i + 1))) := fun A' => by
              rw [List.drop_of_length_le (by rw [HL.out]; omega)]; exact VRow.empty _ _
            subst hci
            obtain rfl := hne
            gi_wp2_with (refine ⟨trivial, ?_⟩; gi_at_call 9; refine (CallsIn.inRound l (callsIn_wide.2 (indexInts_f _ _ _ _ _ _ (hAe _) (by omega)))).mono ?_; rw [HX.out]; rintro e w' ⟨rfl, rfl⟩)
            exact ⟨(KeepsOthers.setCell _ _ _).trans (KeepsOthers.setCell _ _ _), rfl, hfin, hend⟩
          · gi_wp2_with (refine ⟨trivial, ?_⟩; gi_at_call 9; refine (CallsIn.inRound l (callsIn_wide.2 (indexInts_f _ _ _ _ _ _ hAd (by omega)))).mono ?_; rw [HX.out]; rintro e w' ⟨rfl, rfl⟩)
            exact ⟨(KeepsOthers.setCell _ _ _).trans (KeepsOthers.setCell _ _ _), rfl, hfin, hend⟩
        | some k =>
          have hix : idxI (os.drop (i + 1)) u = (k : Int) := by unfold idxI; rw [hfd]
          have hk : k < n - (i + 1) := by rw [← hdl]; exact (List.findIdx?_eq_some_iff_findIdx_eq.mp hfd).1
          have hci : ¬ c = i + 1 := by omega
          have hkk : i + 1 + k < n := by omega
          have hcK := HS1.out.cell hl1 hkk
          obtain ⟨v, hv⟩ : ∃ v, (hs.set i 1)[i + 1 + k]?.getD 0 = v := ⟨_, rfl⟩
          rw [hv] at hcK
          have hvb : 0 ≤ v ∧ v ≤ n := by
            rw [← hv, ← List.getD_eq_getElem?_getD, set_getD, if_neg (by omega)]
            have := HBD.out (i + 1 + k)
            omega
          have hS2 := HS1.out.set i (1 + v)
          have hl2 : ((hs.set i 1).set i (1 + v)).length = n := by simpa using hl
          have hcB2 := hS2.box.cell
          have hcG2 := hS2.most.cell
          have hfG2 := hS2.most.frozen
          have hfH1 : (W.setCell ⟨H, i, none⟩ (.int .i64 1)).frozen? ⟨H, i, none⟩ = false := World.ownsRow.frozenAt HS1.out.row i
          have hcH2 : ((W.setCell ⟨H, i, none⟩ (.int .i64 1)).setCell ⟨H, i, none⟩ (.int .i64 (1 + v))).cell? ⟨H, i, none⟩ = some (.int .i64 (1 + v)) := by have := hS2.cell hl2 hi; simpa [hl, hi] using this
          have HS2 := Lib.hid hS2
          have HX := Lib.hid hix
          have HV := Lib.hid hv
          have hst : hStep os us (some (hs, g)) i = some ((hs.set i 1).set i (1 + v), if g < 1 + v then 1 + v else g) := by
            unfold hStep; dsimp only; rw [if_neg (by rw [HUG.out]; exact h0), HUG.out, hfd]; dsimp only; rw [List.getD_eq_getElem?_getD, HV.out]
          have HST := Lib.hid hst
          clear hS2 hix hv hfd hdl hst
          have hb0 : 0 ≤ (i : Int) + 1 + (k : Int) := by omega
          have hb1 : (i : Int) + 1 + (k : Int) < (n : Int) := by omega
          have htn : ((i : Int) + 1 + (k : Int)).toNat = i + 1 + k := by omega
          have hwk : IntKind.i64.wrap ((i : Int) + 1 + (k : Int)) = (i : Int) + 1 + (k : Int) := by rw [IntKind.wrap_i64]; omega
          have hwv : IntKind.i64.wrap (1 + v) = 1 + v := by rw [IntKind.wrap_i64]; omega
          gi_wp2_with (refine ⟨trivial, ?_⟩; gi_at_call 9; refine (CallsIn.inRound l (callsIn_wide.2 (indexInts_f _ _ _ _ _ _ hAd (by omega)))).mono ?_; rw [HX.out]; rintro e w' ⟨rfl, rfl⟩)
          have hcK2 : ((W.setCell ⟨H, i, none⟩ (.int .i64 1)).setCell ⟨H, i, none⟩ (.int .i64 (1 + v))).cell? ⟨H, i + 1 + k, none⟩ = some (.int .i64 v) := by
            rw [HS2.out.cell hl2 hkk, ← List.getD_eq_getElem?_getD, set_getD, if_neg (by omega), List.getD_eq_getElem?_getD, HV.out]
          refine wpIn_region_round (by assumption) (by kernel_rfl) (S := (fun w' => w'.cell? ⟨Q, 0, none⟩ = some (.slice (some ⟨H, 0, none⟩) n n) ∧ w'.cell? ⟨H, i + 1 + k, none⟩ = some (.int .i64 v))) ⟨hcB1, hcK⟩ (fun hHeld => ?_)
          refine tkR 0 ?_ ⟨some 40, .load 22 (.tmp 6), 22, "l10_order.go:76", #[], none⟩ rfl ?_ ?_
          rotate_left
          · intro w9 hSw; (try dsimp only at hSw); go_simp; try with_reducible rfl
          try simp only [pmR, s0R, sSR]
          refine tkR 1 ?_ ⟨some 41, .move (.tmp 7), 3, "l10_order.go:76", #[], none⟩ rfl ?_ ?_
          rotate_left
          · intro w9 hSw; (try dsimp only at hSw); go_simp; try with_reducible rfl
          try simp only [pmR, s0R, sSR]
          refine tkR 2 ?_ ⟨some 42, .indexAddr 22 (.tmp 40) (.tmp 41), 0, "l10_order.go:76", #[⟨0, .data⟩, ⟨1, .data⟩], none⟩ rfl ?_ ?_
          rotate_left
          · intro w9 hSw; (try dsimp only at hSw); go_simp; try with_reducible rfl
          try simp only [pmR, s0R, sSR]
          refine tkR 4 ?_ ⟨some 44, .load 22 (.tmp 6), 22, "l10_order.go:76", #[], none⟩ rfl ?_ ?_
          rotate_left
          · intro w9 hSw; (try dsimp only at hSw); go_simp; try with_reducible rfl
          try simp only [pmR, s0R, sSR]
          refine tkR 5 ?_ ⟨some 45, .move (.tmp 7), 3, "l10_order.go:76", #[], none⟩ rfl ?_ ?_
          rotate_left
          · intro w9 hSw; (try dsimp only at hSw); go_simp; try with_reducible rfl
          try simp only [pmR, s0R, sSR]
          refine tkR 6 ?_ ⟨some 46, .binOp .add 3 (.tmp 45) (.const (Value.int IntKind.i64 1)) 3, 3, "l10_order.go:76", #[⟨5, .data⟩], none⟩ rfl ?_ ?_
          rotate_left
          · intro w9 hSw; (try dsimp only at hSw); go_simp; try with_reducible rfl
          try simp only [pmR, s0R, sSR]
          refine tkR 7 ?_ ⟨some 47, .move (.tmp 9), 3, "l10_order.go:76", #[], none⟩ rfl ?_ ?_
          rotate_left
          · intro w9 hSw; (try dsimp only at hSw); go_simp; try with_reducible rfl
          try simp only [pmR, s0R, sSR]
          refine tkR 8 ?_ ⟨some 48, .binOp .add 3 (.tmp 46) (.tmp 47) 3, 3, "l10_order.go:76", #[⟨6, .data⟩, ⟨7, .data⟩], none⟩ rfl ?_ ?_
          rotate_left
          · intro w9 hSw; (try dsimp only at hSw); go_simp; try with_reducible rfl
          try simp only [pmR, s0R, sSR]
          refine tkR 9 ?_ ⟨some 49, .indexAddr 22 (.tmp 44) (.tmp 48), 0, "l10_order.go:76", #[⟨4, .data⟩, ⟨8, .data⟩], none⟩ rfl ?_ ?_
          rotate_left
          · intro w9 hSw; (try dsimp only at hSw); go_simp; try with_reducible rfl
          try simp only [pmR, s0R, sSR]
          refine tkR 10 ?_ ⟨some 50, .load 3 (.tmp 49), 3, "l10_order.go:76", #[⟨9, .data⟩], none⟩ rfl ?_ ?_
          rotate_left
          · intro w9 hSw; (try dsimp only at hSw); go_simp; try with_reducible rfl
          try simp only [pmR, s0R, sSR]
          refine wpAnyH_ready (rs := [3]) (by kernel_rfl) (by simp) ?_
          refine AllReadyH.cons (o := ⟨some 43, .load 3 (.tmp 42), 3, "l10_order.go:76", #[⟨2, .data⟩], none⟩) rfl (fun K hK => ?_) AllReadyH.nil
          go_simp
          refine hK.out _ _ hHeld (fun hHeld3 => ?_)
          clear hK K
          try simp only [pmR, s0R, sSR]
          refine tkR 11 ?_ ⟨some 51, .binOp .add 3 (.tmp 43) (.tmp 50) 3, 3, "l10_order.go:76", #[⟨3, .data⟩, ⟨10, .data⟩], none⟩ rfl ?_ ?_
          rotate_left
          · intro w9 hSw; (try dsimp only at hSw); go_simp; try with_reducible rfl
          try simp only [pmR, s0R, sSR]
          refine tkR 12 ?_ ⟨some 52, .indexAddr 22 (.tmp 40) (.tmp 41), 0, "l10_order.go:76", #[⟨0, .data⟩, ⟨1, .data⟩, ⟨0, .phase⟩, ⟨1, .phase⟩, ⟨2, .phase⟩, ⟨3, .phase⟩, ⟨4, .phase⟩, ⟨5, .phase⟩, ⟨6, .phase⟩, ⟨7, .phase⟩, ⟨8, .phase⟩, ⟨9, .phase⟩, ⟨10, .phase⟩, ⟨11, .phase⟩], none⟩ rfl ?_ ?_
          rotate_left
          · intro w9 hSw; (try dsimp only at hSw); go_simp; try with_reducible rfl
          try simp only [pmR, s0R, sSR]
          refine wpAnyH_ready (rs := [13]) (by kernel_rfl) (by simp) ?_
          refine AllReadyH.cons (o := ⟨none, .store 3 (.tmp 52) (.tmp 51), 0, "l10_order.go:76", #[⟨12, .data⟩, ⟨11, .data⟩, ⟨0, .phase⟩, ⟨1, .phase⟩, ⟨2, .phase⟩, ⟨3, .phase⟩, ⟨4, .phase⟩, ⟨5, .phase⟩, ⟨6, .phase⟩, ⟨7, .phase⟩, ⟨8, .phase⟩, ⟨9, .phase⟩, ⟨10, .phase⟩, ⟨11, .phase⟩], none⟩) rfl (fun K hK => ?_) AllReadyH.nil
          go_simp
          refine hK.out _ _ ⟨hcB2, hcK2⟩ (fun hHeld13 => ?_)
          clear hK K
          try simp only [pmR, s0R, sSR]
          refine wpAnyH_done (by kernel_rfl) ?_ _
          refine ⟨rfl, ?_⟩
          gi_wp2
          have hk14 : ∀ v9 : Int, (((W.setCell ⟨H, i, none⟩ (.int .i64 1)).setCell ⟨H, i, none⟩ (.int .i64 (1 + v))).setCell ⟨w.heap.size + 1 + 1, 0, none⟩ (.int .i64 v9)).cell? ⟨Q, 0, none⟩ = some (.slice (some ⟨H, 0, none⟩) n n) ∧ (((W.setCell ⟨H, i, none⟩ (.int .i64 1)).setCell ⟨H, i, none⟩ (.int .i64 (1 + v))).setCell ⟨w.heap.size + 1 + 1, 0, none⟩ (.int .i64 v9)).cell? ⟨H, i, none⟩ = some (.int .i64 (1 + v)) := fun v9 => ⟨(HS2.out.setG v9).box.cell, by have := (HS2.out.setG v9).cell hl2 hi; simpa [hl, hi] using this⟩
          have HK14 := Lib.hid hk14
          clear hk14 hHeld hHeld3 hHeld13
          by_cases hg : g < (1 + v)
          · refine wpIn_region_round (by assumption) (by kernel_rfl) (S := (fun w' => w'.cell? ⟨Q, 0, none⟩ = some (.slice (some ⟨H, 0, none⟩) n n) ∧ w'.cell? ⟨H, i, none⟩ = some (.int .i64 (1 + v)))) ⟨hcB2, hcH2⟩ (fun hHeld => ?_)
            refine tkR 1 ?_ ⟨some 54, .load 22 (.tmp 6), 22, "l10_order.go:78", #[], none⟩ rfl ?_ ?_
            rotate_left
            · intro w9 hSw; (try dsimp only at hSw); go_simp; try with_reducible rfl
            try simp only [pmR, s0R, sSR]
            refine tkR 2 ?_ ⟨some 55, .move (.tmp 7), 3, "l10_order.go:78", #[], none⟩ rfl ?_ ?_
            rotate_left
            · intro w9 hSw; (try dsimp only at hSw); go_simp; try with_reducible rfl
            try simp only [pmR, s0R, sSR]
            refine tkR 3 ?_ ⟨some 56, .indexAddr 22 (.tmp 54) (.tmp 55), 0, "l10_order.go:78", #[⟨1, .data⟩, ⟨2, .data⟩], none⟩ rfl ?_ ?_
            rotate_left
            · intro w9 hSw; (try dsimp only at hSw); go_simp; try with_reducible rfl
            try simp only [pmR, s0R, sSR]
            refine tkR 4 ?_ ⟨some 57, .load 3 (.tmp 56), 3, "l10_order.go:78", #[⟨3, .data⟩], none⟩ rfl ?_ ?_
            rotate_left
            · intro w9 hSw; (try dsimp only at hSw); go_simp; try with_reducible rfl
            try simp only [pmR, s0R, sSR]
            refine wpAnyH_ready (rs := [0]) (by kernel_rfl) (by simp) ?_
            refine AllReadyH.cons (o := ⟨some 53, .load 3 (.tmp 5), 3, "l10_order.go:78", #[], none⟩) rfl (fun K hK => ?_) AllReadyH.nil
            go_simp
            refine hK.out _ _ hHeld (fun hHeld0 => ?_)
            clear hK K
            try simp only [pmR, s0R, sSR]
            refine tkR 5 ?_ ⟨some 58, .call { callee := .builtin .max, args := #[.tmp 53, .tmp 57], argTypes := #[3, 3] }, 3, "l10_order.go:78", #[⟨0, .data⟩, ⟨4, .data⟩], none⟩ rfl ?_ ?_
            rotate_left
            · intro w9 hSw; (try dsimp only at hSw); go_simp; try with_reducible rfl
            try simp only [pmR, s0R, sSR]
            refine wpAnyH_ready (rs := [6]) (by kernel_rfl) (by simp) ?_
            refine AllReadyH.cons (o := ⟨none, .store 3 (.tmp 5) (.tmp 58), 0, "l10_order.go:78", #[⟨5, .data⟩, ⟨0, .phase⟩, ⟨1, .phase⟩, ⟨2, .phase⟩, ⟨3, .phase⟩, ⟨4, .phase⟩, ⟨5, .phase⟩], none⟩) rfl (fun K hK => ?_) AllReadyH.nil
            go_simp
            refine hK.out _ _ (HK14.out _) (fun hHeld6 => ?_)
            clear hK K
            try simp only [pmR, s0R, sSR]
            refine wpAnyH_done (by kernel_rfl) ?_ _
            refine ⟨rfl, ?_⟩
            exact ⟨((((KeepsOthers.setCell _ _ _).trans (KeepsOthers.setCell _ _ _)).trans (KeepsOthers.setCell _ _ _)).trans (KeepsOthers.drew _)).trans (KeepsOthers.drew _), kpB_drew (kpB_drew (kpB_t (kpB_t (kpB_set HS.out.lo.2 NE.out.1 _ _) (kpB_set HS.out.lo.2 NE.out.1 _ _)) (kpB_set HS.out.lo.1 NE.out.2 _ _))), (hs.set i 1).set i (1 + v), (1 + v), by rw [HF'.out, HST.out]; rw [if_pos hg], (HS2.out.setG (1 + v)).drew.drew⟩
          · have hgm : (1 + v) ≤ g := by omega
            refine wpIn_region_round (by assumption) (by kernel_rfl) (S := (fun w' => w'.cell? ⟨Q, 0, none⟩ = some (.slice (some ⟨H, 0, none⟩) n n) ∧ w'.cell? ⟨H, i, none⟩ = some (.int .i64 (1 + v)))) ⟨hcB2, hcH2⟩ (fun hHeld => ?_)
            refine tkR 1 ?_ ⟨some 54, .load 22 (.tmp 6), 22, "l10_order.go:78", #[], none⟩ rfl ?_ ?_
            rotate_left
            · intro w9 hSw; (try dsimp only at hSw); go_simp; try with_reducible rfl
            try simp only [pmR, s0R, sSR]
            refine tkR 2 ?_ ⟨some 55, .move (.tmp 7), 3, "l10_order.go:78", #[], none⟩ rfl ?_ ?_
            rotate_left
            · intro w9 hSw; (try dsimp only at hSw); go_simp; try with_reducible rfl
            try simp only [pmR, s0R, sSR]
            refine tkR 3 ?_ ⟨some 56, .indexAddr 22 (.tmp 54) (.tmp 55), 0, "l10_order.go:78", #[⟨1, .data⟩, ⟨2, .data⟩], none⟩ rfl ?_ ?_
            rotate_left
            · intro w9 hSw; (try dsimp only at hSw); go_simp; try with_reducible rfl
            try simp only [pmR, s0R, sSR]
            refine tkR 4 ?_ ⟨some 57, .load 3 (.tmp 56), 3, "l10_order.go:78", #[⟨3, .data⟩], none⟩ rfl ?_ ?_
            rotate_left
            · intro w9 hSw; (try dsimp only at hSw); go_simp; try with_reducible rfl
            try simp only [pmR, s0R, sSR]
            refine wpAnyH_ready (rs := [0]) (by kernel_rfl) (by simp) ?_
            refine AllReadyH.cons (o := ⟨some 53, .load 3 (.tmp 5), 3, "l10_order.go:78", #[], none⟩) rfl (fun K hK => ?_) AllReadyH.nil
            go_simp
            refine hK.out _ _ hHeld (fun hHeld0 => ?_)
            clear hK K
            try simp only [pmR, s0R, sSR]
            refine tkR 5 ?_ ⟨some 58, .call { callee := .builtin .max, args := #[.tmp 53, .tmp 57], argTypes := #[3, 3] }, 3, "l10_order.go:78", #[⟨0, .data⟩, ⟨4, .data⟩], none⟩ rfl ?_ ?_
            rotate_left
            · intro w9 hSw; (try dsimp only at hSw); go_simp; try with_reducible rfl
            try simp only [pmR, s0R, sSR]
            refine wpAnyH_ready (rs := [6]) (by kernel_rfl) (by simp) ?_
            refine AllReadyH.cons (o := ⟨none, .store 3 (.tmp 5) (.tmp 58), 0, "l10_order.go:78", #[⟨5, .data⟩, ⟨0, .phase⟩, ⟨1, .phase⟩, ⟨2, .phase⟩, ⟨3, .phase⟩, ⟨4, .phase⟩, ⟨5, .phase⟩], none⟩) rfl (fun K hK => ?_) AllReadyH.nil
            go_simp
            refine hK.out _ _ (HK14.out _) (fun hHeld6 => ?_)
            clear hK K
            try simp only [pmR, s0R, sSR]
            refine wpAnyH_done (by kernel_rfl) ?_ _
            refine ⟨rfl, ?_⟩
            exact ⟨((((KeepsOthers.setCell _ _ _).trans (KeepsOthers.setCell _ _ _)).trans (KeepsOthers.setCell _ _ _)).trans (KeepsOthers.drew _)).trans (KeepsOthers.drew _), kpB_drew (kpB_drew (kpB_t (kpB_t (kpB_set HS.out.lo.2 NE.out.1 _ _) (kpB_set HS.out.lo.2 NE.out.1 _ _)) (kpB_set HS.out.lo.1 NE.out.2 _ _))), (hs.set i 1).set i (1 + v), g, by rw [HF'.out, HST.out]; rw [if_neg hg], (HS2.out.setG g).drew.drew⟩
    case done =>
      rintro D ys W hD rfl ⟨hs, g, hf, hS⟩ hK
      have hcG := hS.most.cell
      have hcR := hS.ans.cell
      have hfR := hS.ans.frozen
      rw [dnF_val] at hf
      have hres : treeH os us = g := by
        refine treeH_some (HL.out.trans HM.out.symm) (by rw [HL.out]; exact h10) (hs := hs) ?_
        rw [HL.out]; exact hf
      have HRES := Lib.hid hres
      have HD := Lib.hid hD
      have HSS := Lib.hid hS
      clear hres hf hS hD
      gi_wp2
      have hK' := (KeepsOthers.setCell W ⟨w.heap.size + 1, 0, none⟩ (.int .i64 g)).same D _ hK rfl
      refine ⟨by simp, .inl ⟨_, _, rfl, run_takeDeferred hK', ?_⟩⟩
      have hc5 := cell_kept (World.cell?_setCell_same' W ⟨w.heap.size + 1, 0, none⟩ (.int .i64 g) (by rw [hcR]; rfl)) (grownBy_putObj' _ D (.deferred none)) (fun r e => by cases e; exact ⟨_, hK', rfl⟩)
      refine ⟨.int .i64 g, ?_, by rw [HRES.out], (HSS.out.below.setCell (p := ⟨w.heap.size + 1, 0, none⟩) (by simp) _).trans (belowK_b (w := w) (Nat.le_refl _) _ D _ _ (by have := HD.out; have := hS0.below.size; omega) hK' rfl rfl)⟩
      simp [results, Try.f6, go_sem, hc5]
    case stop =>
      rintro D cd pre W hD ⟨k, hk, rfl⟩ ⟨rfl, hfn, hE⟩ hK
      rw [dnF_val] at hfn
      have hres : treeH os us = 0 := treeH_none (k := k) (by rw [HL.out]; exact hk) (by rw [HL.out]; exact hfn)
      have HRES := Lib.hid hres
      have HD := Lib.hid hD
      clear hres hfn hD
      gi_wp2
      refine ⟨by simp, .inl ⟨_, _, rfl, run_takeDeferred hK, ?_⟩⟩
      have hc5 := cell_kept hE.1.cell (grownBy_putObj' _ D (.deferred none)) (fun r e => by cases e; exact ⟨_, hK, rfl⟩)
      refine ⟨.int .i64 0, ?_, by rw [HRES.out], hE.2.trans (belowK_b (w := w) (Nat.le_refl _) _ D _ _ (by have := HD.out; have := hS0.below.size; omega) hK rfl rfl)⟩
      simp [results, Try.f6, go_sem, hc5]
  · have hk : treeH os us = 0 := treeH_off (fun h => hok ⟨by have := HL.out; have := HM.out; omega, by have := HL.out; omega⟩)
    rw [hk]
    by_cases hnm : (n : Int) = (m : Int)
    · have h10 : (10 : Int) < (n : Int) := by omega
      go_enter Try.func6, Try.ntmps6
      go_wp2
      exact bodyPost_ret (v := .int .i64 0) (by simp [results, Try.results6, go_sem]) rfl ⟨rfl, ((Below.refl _ w).alloc (Nat.le_refl _) _).alloc (by simp) _⟩
    · go_enter Try.func6, Try.ntmps6
      go_wp2
      exact bodyPost_ret (v := .int .i64 0) (by simp [results, Try.results6, go_sem]) rfl ⟨rfl, ((Below.refl _ w).alloc (Nat.le_refl _) _).alloc (by simp) _⟩
end Go.Proofs.Ytgmgdbnfmlmicaa
