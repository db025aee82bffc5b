/- The program's graphOf: a map from nodes to their neighbors. Conditions: none. -/
import Derived.Test.YtgjaennedihckaaGreatGraphSet
import Derived.Test.YtgjaennedihckaaGreatB2
import Derived.Maps.GroupsBeside
import Derived.Maps.Views
import Derived.Maps.Range
import Derived.Deep.RegionHeld3
import Derived.Deep.Cut
namespace Go.Proofs.YtgjaennedihckaaGreat
open Go.RowKit Go.Maps
open Go.ChangeShapes (lits)
open Go.MapKept (stamped_iff)
set_option linter.unusedVariables false

/-- append to a row of the call's own, as one step of a region that draws its order: where the answer lies. -/
theorem step_append_at {P : Program} {ops : Array Oper} {o : Oper} {a : Act} {w : World} {K : Act → World → Prop} {Q : Exit → Act → World → Prop} {E : Prop}
    (hg : o.guard = none) (s x : Operand) (t : TypeId) (hop : o.op = Op.call { callee := Callee.builtin Builtin.append, args := #[s, x], argTypes := #[t, t] })
    (base : Nat) (e : TypeId) (i : TypeInfo) (z : Value) (size bytes : Nat) (ht : P.underlying t = some (.slice e)) (hi : P.info? e = some i) (hz : i.zero = some z) (hsize : i.size = size) (hby : i.bytes = bytes) (hzs : z.cells.size = size) (hsz : 0 < size)
    (v : Value) (n : Nat) (xs : List Value) (hs : a.eval s = v) (hown : w.ownsRow base e size v n xs)
    (ad : Addr) (m c : Nat) (news : List Value) (hx : a.eval x = .slice (some ad) m c) (hl : news.length = m * size) (hnews : ∀ j u, news[j]? = some u → w.cell? (ad.add j) = some u) (h1 : ∀ u ∈ news, u.oneCell' = true)
    (h63 : n + m ≤ maxLen) (hbytes : (n + m) * bytes ≤ 140737488355328) (hbase : base ≤ w.heap.size)
    (hK : ∀ v' w', w'.ownsRow base e size v' (n + m) (xs ++ news) → w.grownBy w' v.ownBlock → (v'.ownBlock = v.ownBlock ∨ v'.ownBlock = some w.heap.size) → K (a.put o.dst v') w') :
    if Region.wanted o (yielded ops a.tmps) = true then Oper.wp P o a w K Q else E := by
  have hw : Region.wanted o (yielded ops a.tmps) = true := by simp [Region.wanted, hg]
  rw [if_pos hw]
  obtain ⟨v', w', hrun, h2, h3, _, h5⟩ := run_append_own_at (P := P) (w := w) base t o.type e i z size bytes ht hi hz hsize hby hzs hsz v n xs hown ad m c news hl hnews h1 h63 hbytes hbase
  unfold Oper.wp
  simp [execOp, hop, resolve, invoke, builtin, hs, hx, hrun, Result.andThen]
  exact hK _ _ h2 h3 h5
theorem keyedInt : Keyed Tryz.prog 3 := int_keyed Tryz.underlying3
theorem zeroIS (w : World) : (zeroValue 22).run Tryz.prog w = .ok (.slice none 0 0) w := by kernel_rfl
theorem wf64 {x : Int} (h : 0 ≤ x ∧ x < 10) : (Lit.int .i64 x).wf = true := WalkArith.wf_i64 (by omega)
/-- What a slice among a map's elements reads as. -/
def Reads (d : DataW Unit) (zs : List Int) : Prop := d = .slice (lits .i64 zs) [] ∨ (d = .nil ∧ zs = [])
theorem lits_inj {a b : List Int} (h : (lits .i64 a : List (DataW Unit)) = lits .i64 b) : a = b := by
  unfold lits at h
  exact (List.map_inj_right (fun x y hxy => by simpa using hxy)).mp h
theorem Reads.unique {d : DataW Unit} {a b : List Int} (h1 : Reads d a) (h2 : Reads d b) : a = b := by
  rcases h1 with h1 | ⟨h1, h1'⟩ <;> rcases h2 with h2 | ⟨h2, h2'⟩
  · rw [h1] at h2; simp at h2; exact lits_inj h2
  · rw [h1] at h2; simp at h2
  · rw [h1] at h2; simp at h2
  · rw [h1', h2']
theorem reads_of {w : World} {base : Nat} {e : TypeId} {v : Value} {zs : List Int} (h : w.ownsInts base e .i64 v zs) : Reads (rowDatum .i64 v zs) zs := by
  rcases h.datum (H := Unit) with h | h
  · exact .inr h
  · exact .inl h
/-- Block B is a map: at x it has the numbers f x; its keys are those of which p holds. -/
structure GMap (w : World) (B base n : Nat) (f : Int → List Int) (p : Int → Prop) (D : DataW Unit) : Prop where
  own : w.ownsGroups (H := Unit) Tryz.prog 3 base 3 .i64 B n D
  rd : ∀ x, Reads (D.atKey (.int .i64 x) .nil) (f x)
  has : ∀ x, Maps.has D (.int .i64 x) = true ↔ p x
  isMap : IsMap D
theorem GMap.drew {w : World} {B base n : Nat} {f : Int → List Int} {p : Int → Prop} {D : DataW Unit} (h : GMap w B base n f p D) : GMap w.drew B base n f p D := ⟨h.own, h.rd, h.has, h.isMap⟩
theorem GMap.below {w w' : World} {B base n : Nat} {f : Int → List Int} {p : Int → Prop} {D : DataW Unit} (h : GMap w B base n f p D) (hb : Below w.heap.size w w') : GMap w' B base n f p D := by
  refine ⟨h.own.kept (row := none) ⟨hb.os, hb.tape, hb.output, hb.size, fun k hk _ => hb.block k hk⟩ (by simp) (fun es clock he x hx => ?_), h.rd, h.has, h.isMap⟩
  cases x.val.ownBlock <;> simp
theorem GMap.lt {w : World} {B base n : Nat} {f : Int → List Int} {p : Int → Prop} {D : DataW Unit} (h : GMap w B base n f p D) : B < w.heap.size ∧ B < base := by
  obtain ⟨es, clock, hb, _, _, _, hbb, _⟩ := h.own
  exact ⟨(Array.getElem?_eq_some_iff.1 hb).1, hbb⟩
theorem GMap.mono {w : World} {B base n m : Nat} {f : Int → List Int} {p : Int → Prop} {D : DataW Unit} (h : GMap w B base n f p D) (hm : n ≤ m) : GMap w B base m f p D := by
  obtain ⟨es, clock, hb, F, hs, hD, hbb, hlen, hap⟩ := h.own
  exact ⟨⟨es, clock, hb, F, by omega, hD, hbb, fun x hx zs ho => Nat.le_trans (hlen x hx zs ho) hm, hap⟩, h.rd, h.has, h.isMap⟩
def updF (f : Int → List Int) (x y : Int) : Int → List Int := fun z => if z = x then f x ++ [y] else f z
/-- A look-up hands over the slice and the way back. -/
theorem look_stays {w u : World} {base b n : Nat} {e : TypeId} {q : IntKind} {D : DataW Unit} {t E k : TypeId} {P : Program} {key v : Value} {kl : Lit} (h : w.ownsGroups P k base e q b n D) (K : Keyed P k) (ht : P.underlying t = some (.map k E)) (hz : ∀ u : World, (zeroValue E).run P u = .ok (.slice none 0 0) u) (hkey : keyOf P k key = some kl)
    (hrun : (Instr.lookup t (.map (some b)) key false).run P w = .ok v w) (hu : u.heap[b]? = w.heap[b]?) : (Instr.lookup t (.map (some b)) key false).run P u = .ok v u := by
  obtain ⟨es, clock, hb, F, _⟩ := h
  rcases Maps.fit_look false K ht (hz w) hb F hkey with ⟨r1, n1, _⟩ | ⟨e0, y0, m0, k0, r1, _⟩ <;> rcases Maps.fit_look false K ht (hz u) (hu.trans hb) F hkey with ⟨r2, n2, _⟩ | ⟨e1, y1, m1, k1, r2, _⟩
  · rw [hrun] at r1
    obtain rfl : v = .slice none 0 0 := by simpa using r1
    exact r2
  · exact absurd k1 (n1 e1 m1)
  · exact absurd k0 (n2 e0 m0)
  · obtain rfl : e0 = e1 := entry_eq_of_key ((stamped_iff es clock).1 F.stamped).2.2 m0 m1 (k0.trans k1.symm)
    rw [hrun] at r1
    obtain rfl : v = e0.val := by simpa using r1
    exact r2
theorem GMap.at_ {w : World} {B base n : Nat} {f : Int → List Int} {p : Int → Prop} {D : DataW Unit} (h : GMap w B base n f p D) (hn : n < maxLen) (x : Int) (hx : (Lit.int .i64 x).wf = true) :
    ∃ v, (∀ u : World, u.heap[B]? = w.heap[B]? → (Instr.lookup 73 (.map (some B)) (.int .i64 x) false).run Tryz.prog u = .ok v u) ∧ w.ownsInts base 3 .i64 v (f x) ∧ (f x).length ≤ n ∧
      ∀ (w1 : World) (v' : Value) (y : Int), w.grownBy w1 v.ownBlock → w1.ownsInts base 3 .i64 v' (f x ++ [y]) → (v'.ownBlock = v.ownBlock ∨ ∃ g, v'.ownBlock = some g ∧ w.heap.size ≤ g) →
        ∃ w2 D', (Instr.mapUpdate 73 (.map (some B)) (.int .i64 x) v').run Tryz.prog w1 = .ok () w2 ∧ GMap w2 B base (n + 1) (updF f x y) (fun z => p z ∨ z = x) D' ∧ w1.grownBy w2 (some B) := by
  have hkey := keyOf_int_mk Tryz.underlying3 hx
  obtain ⟨v, zs, hrun, hat, hoi, hzl, hback⟩ := h.own.at keyedInt Tryz.underlying73 (zeroIS _) hn hkey
  have hr := h.rd x
  rw [hat] at hr
  obtain rfl : zs = f x := (reads_of hoi).unique hr
  refine ⟨v, fun u hu => look_stays h.own keyedInt Tryz.underlying73 zeroIS hkey hrun hu, hoi, hzl, fun w1 v' y hg ho hloc => ?_⟩
  obtain ⟨w2, hrun2, hown2, hg2⟩ := hback w1 v' _ hg ho (by simp; omega) hloc
  have hk : WideAt.IsKeyLit (Lit.int .i64 x) := keyedInt.key hkey
  refine ⟨w2, _, hrun2, ⟨hown2, fun z => ?_, fun z => ?_, h.isMap.put _ _⟩, hg2⟩
  · unfold updF
    by_cases e : z = x
    · subst e
      rw [if_pos rfl, atKey_put_same h.isMap hk]
      exact reads_of ho
    · rw [if_neg e, atKey_put_other (fun e' => e (by simpa using e'))]
      exact h.rd z
  · by_cases e : z = x
    · subst e
      simp [has_put_same h.isMap hk]
    · rw [has_put_other (fun e' => e (by simpa using e')), h.has z]
      simp [e]
/-- A row of integers is no box. -/
theorem own_ne_box {w : World} {base bx : Nat} {v : Value} {zs : List Int} {T : TypeId} {cs : Array Value} {fr : Nat × Nat} (ho : w.ownsInts base 3 .i64 v zs) (hX : w.heap[bx]? = some (.cells cs T fr)) (hT : T ≠ 3) : v.ownBlock ≠ some bx := by
  intro h
  rcases ho.1.2 with ⟨rfl, _⟩ | ⟨g, cap, cur, rfl, _, hh, _⟩
  · simp [Value.ownBlock] at h
  · obtain rfl : g = bx := by simpa [Value.ownBlock] using h
    rw [hh] at hX
    simp only [Option.some.injEq, Obj.cells.injEq] at hX
    exact hT hX.2.1.symm
theorem heap_grown {w w' : World} {row : Option Nat} {bx : Nat} {ob : Obj} (hX : w.heap[bx]? = some ob) (hg : w.grownBy w' row) (hne : some bx ≠ row) : w'.heap[bx]? = some ob := (hg.block bx (Array.getElem?_eq_some_iff.1 hX).1 hne).trans hX
theorem heap_alloc_lt {w : World} {bx : Nat} {ob : Obj} (hX : w.heap[bx]? = some ob) (o2 : Obj) : (w.alloc o2).heap[bx]? = some ob := heap_grown hX (World.grownBy_alloc w o2 none) (by simp)
theorem GMap.made (w : World) : GMap (w.alloc (.map #[] 0)) w.heap.size (w.heap.size + 1) 0 (fun _ => []) (fun _ => False) (.map []) :=
  ⟨World.ownsGroups_made _ _ _ _ _, fun x => .inr ⟨rfl, rfl⟩, fun x => by simp [Maps.has], isMap_empty⟩
/-- The neighbors that the first k links give, as the program gathers them. -/
def adjK (zs : List Lr) (k : Nat) : Int → List Int := Gr.adjI (eds (zs.take k))
def endK (zs : List Lr) (k : Nat) : Int → Prop := Gr.isEnd (eds (zs.take k))
theorem adjK_succ {zs : List Lr} {k : Nat} {z : Lr} (h : zs[k]? = some z) (hne : z.A ≠ z.B) : adjK zs (k + 1) = updF (updF (adjK zs k) z.A z.B) z.B z.A := by
  funext x
  unfold adjK
  rw [eds_succ h]
  simp only [Gr.adjI, List.flatMap_append, List.flatMap_cons, List.flatMap_nil, List.append_nil, Gr.adjOne, updF]
  by_cases h1 : x = z.A
  · subst h1
    have h2 : ¬ z.B = z.A := fun e => hne e.symm
    simp [h2, hne]
  · by_cases h2 : x = z.B
    · subst h2
      simp [hne, h1]
    · have h3 : ¬ z.A = x := fun e => h1 e.symm
      have h4 : ¬ z.B = x := fun e => h2 e.symm
      simp [h1, h2, h3, h4]
theorem endK_succ {zs : List Lr} {k : Nat} {z : Lr} (h : zs[k]? = some z) : endK zs (k + 1) = fun x => (endK zs k x ∨ x = z.A) ∨ x = z.B := by
  funext x
  unfold endK Gr.isEnd
  rw [eds_succ h]
  simp only [List.mem_append, List.mem_singleton, eq_iff_iff]
  constructor
  · rintro ⟨e, he | rfl, h1⟩
    · exact .inl (.inl ⟨e, he, h1⟩)
    · rcases h1 with h1 | h1
      · exact .inl (.inr h1.symm)
      · exact .inr h1.symm
  · rintro ((⟨e, he, h1⟩ | rfl) | rfl)
    · exact ⟨e, .inl he, h1⟩
    · exact ⟨_, .inr rfl, .inl rfl⟩
    · exact ⟨_, .inr rfl, .inr rfl⟩
set_option maxRecDepth 100000 in
set_option maxHeartbeats 4000000 in
theorem graphOf_f (A : Option Addr) (n c : Nat) (zs : List Lr) (w : World) (hA : LArg w A n zs) (hn : n ≤ 1048576) (hok : okSet zs = true) :
    Calls Tryz.prog 54 #[.slice A n c] w fun e w' => e = .returned (.map (some w.heap.size)) ∧ (∃ D, GMap w' w.heap.size (w.heap.size + 1) (2 * n) (Gr.adjI (eds zs)) (Gr.isEnd (eds zs)) D) ∧ Below w.heap.size w w' := by
  have hmm := @run_makeMap Tryz.prog
  obtain ⟨i0, hi, hz0, hz1, hz2⟩ := info_parts info_int
  have HA := Lib.hid hA
  have HL := Lib.hid hA.row.1
  have HOK := Lib.hid (okSet_ok hok)
  have S_0 := Lib.hid ((Below.refl w.heap.size w).alloc (Nat.le_refl _) (.map #[] 0))
  have G_0 := Lib.hid (GMap.made w)
  clear hA hok
  go_enter Tryz.func54, Tryz.ntmps54
  go_wp2
  go_loopw [9] (fun i wr => ∃ (k : Nat) (D : DataW Unit), k ≤ n ∧ i = .int .i64 k ∧ GMap wr w.heap.size (w.heap.size + 1) (2 * k) (adjK zs k) (endK zs k) D ∧ Below w.heap.size w wr) (fun i _ => n - (intOf i).toNat)
  case atStart => exact ⟨0, _, Nat.zero_le _, rfl, by have h := G_0.out; exact ⟨h.own, fun x => by have := h.rd x; simpa [adjK, eds, Gr.adjI] using this, fun x => by have := h.has x; simpa [endK, eds, Gr.isEnd] using this, h.isMap⟩, S_0.out⟩
  case round =>
    obtain ⟨k, D, hk, rfl, hG, hb⟩ := hrel
    have G_1 := Lib.hid hG
    have B_1 := Lib.hid hb
    clear hG hb S_0 G_0 hmm
    by_cases hlt : k < n
    · obtain ⟨g, o, z, rfl, hg, hz, hr, hc⟩ := (HA.out.below B_1.out).at_ hlt
      have hzk := okK_parts (HOK.out z (List.mem_of_getElem? hz))
      obtain ⟨ZA, ZB, ZP, ZQ, ZR, a0, n0, d0, a1, n1, d1, a2, n2, d2, a3, n3, d3, a4, n4, d4, a5, n5, d5, rfl⟩ := LArg.shapes hr
      obtain ⟨⟨hA0, hA1⟩, ⟨hB0, hB1⟩, hAB, _⟩ : (0 ≤ ZA ∧ ZA < 10) ∧ (0 ≤ ZB ∧ ZB < 10) ∧ ZA < ZB ∧ _ := hzk
      have HE := Lib.hid (adjK_succ hz (show ZA ≠ ZB by omega))
      have HP := Lib.hid (endK_succ hz)
      have c0 : wr.cell? ⟨g, o + k * 11, none⟩ = some (.int .i64 ZA) := hc 0 _ rfl
      have c1 : wr.cell? ⟨g, o + k * 11 + 1, none⟩ = some (.int .i64 ZB) := hc 1 _ rfl
      have c2 : wr.cell? ⟨g, o + k * 11 + 2, none⟩ = some (.bool ZP.s) := hc 2 _ rfl
      have c3 : wr.cell? ⟨g, o + k * 11 + 3, none⟩ = some ((.slice a0 n0 d0)) := hc 3 _ rfl
      have c4 : wr.cell? ⟨g, o + k * 11 + 4, none⟩ = some ((.slice a1 n1 d1)) := hc 4 _ rfl
      have c5 : wr.cell? ⟨g, o + k * 11 + 5, none⟩ = some (.bool ZQ.s) := hc 5 _ rfl
      have c6 : wr.cell? ⟨g, o + k * 11 + 6, none⟩ = some ((.slice a2 n2 d2)) := hc 6 _ rfl
      have c7 : wr.cell? ⟨g, o + k * 11 + 7, none⟩ = some ((.slice a3 n3 d3)) := hc 7 _ rfl
      have c8 : wr.cell? ⟨g, o + k * 11 + 8, none⟩ = some (.bool ZR.s) := hc 8 _ rfl
      have c9 : wr.cell? ⟨g, o + k * 11 + 9, none⟩ = some ((.slice a4 n4 d4)) := hc 9 _ rfl
      have c10 : wr.cell? ⟨g, o + k * 11 + 10, none⟩ = some ((.slice a5 n5 d5)) := hc 10 _ rfl
      clear hz hr hc
      have hX := (Array.getElem?_push_size : (wr.heap.push (.cells #[.int .i64 ZA, .int .i64 ZB, .bool ZP.s, (.slice a0 n0 d0), (.slice a1 n1 d1), .bool ZQ.s, (.slice a2 n2 d2), (.slice a3 n3 d3), .bool ZR.s, (.slice a4 n4 d4), (.slice a5 n5 d5)] 38))[wr.heap.size]? = _)
      have X_1 := Lib.hid (show (wr.alloc (.cells #[.int .i64 ZA, .int .i64 ZB, .bool ZP.s, (.slice a0 n0 d0), (.slice a1 n1 d1), .bool ZQ.s, (.slice a2 n2 d2), (.slice a3 n3 d3), .bool ZR.s, (.slice a4 n4 d4), (.slice a5 n5 d5)] 38)).heap[wr.heap.size]? = some (.cells #[.int .i64 ZA, .int .i64 ZB, .bool ZP.s, (.slice a0 n0 d0), (.slice a1 n1 d1), .bool ZQ.s, (.slice a2 n2 d2), (.slice a3 n3 d3), .bool ZR.s, (.slice a4 n4 d4), (.slice a5 n5 d5)] 38 (0, 0)) from hX)
      have G_2 := Lib.hid (G_1.out.below ((Below.refl _ _).alloc (Nat.le_refl _) (.cells #[.int .i64 ZA, .int .i64 ZB, .bool ZP.s, (.slice a0 n0 d0), (.slice a1 n1 d1), .bool ZQ.s, (.slice a2 n2 d2), (.slice a3 n3 d3), .bool ZR.s, (.slice a4 n4 d4), (.slice a5 n5 d5)] 38)))
      have B_2 := Lib.hid (B_1.out.alloc B_1.out.size (.cells #[.int .i64 ZA, .int .i64 ZB, .bool ZP.s, (.slice a0 n0 d0), (.slice a1 n1 d1), .bool ZQ.s, (.slice a2 n2 d2), (.slice a3 n3 d3), .bool ZR.s, (.slice a4 n4 d4), (.slice a5 n5 d5)] 38))
      have hbx0 := G_1.out.lt.1
      clear hX B_1 G_1
      go_upto_region 5 with fail
      obtain ⟨bx, hbx⟩ : ∃ u, wr.heap.size = u := ⟨_, rfl⟩
      obtain ⟨wb, hwb⟩ : ∃ u, wr.alloc (.cells #[.int .i64 ZA, .int .i64 ZB, .bool ZP.s, (.slice a0 n0 d0), (.slice a1 n1 d1), .bool ZQ.s, (.slice a2 n2 d2), (.slice a3 n3 d3), .bool ZR.s, (.slice a4 n4 d4), (.slice a5 n5 d5)] 38) = u := ⟨_, rfl⟩
      rw [hwb] at X_1 G_2 B_2 ⊢
      rw [hbx] at X_1 hbx0 ⊢
      clear hwb hbx c0 c1 c2 c3 c4 c5 c6 c7 c8 c9 c10
      go_cut [5] (fun ptr wx => ptr = .pointer (some ⟨bx, 0, none⟩) ∧ (∃ D', GMap wx w.heap.size (w.heap.size + 1) ((2 * k) + 1) (updF (adjK zs k) ZA ZB) (fun z => (endK zs k) z ∨ z = ZA) D') ∧ Below w.heap.size w wx ∧ wx.heap[bx]? = some (.cells #[.int .i64 ZA, .int .i64 ZB, .bool ZP.s, (.slice a0 n0 d0), (.slice a1 n1 d1), .bool ZQ.s, (.slice a2 n2 d2), (.slice a3 n3 d3), .bool ZR.s, (.slice a4 n4 d4), (.slice a5 n5 d5)] 38 (0, 0)))
      case first =>
        obtain ⟨v, hlook, hoi, hlen, hback⟩ := G_2.out.at_ (by unfold maxLen; omega) ZA (WalkArith.wf_i64 (by omega))
        have hc0 : wb.cell? ⟨bx, 0, none⟩ = some (.int .i64 ZA) := by simp [World.cell?, X_1.out]
        have hc1 : wb.cell? ⟨bx, 1, none⟩ = some (.int .i64 ZB) := by simp [World.cell?, X_1.out]
        have hBlt := G_2.out.lt.1
        have hlk1 := hlook wb.drew rfl
        have hlk2 := hlook (wb.alloc (.cells #[.int .i64 ZB] 3)).drew (by show (wb.alloc (.cells #[.int .i64 ZB] 3)).heap[w.heap.size]? = _; exact (World.grownBy_alloc wb (.cells #[.int .i64 ZB] 3) none).block _ hBlt (by simp))
        have HOI := Lib.hid hoi
        have HLK := Lib.hid hlook
        have HBK := Lib.hid hback
        have HVN := Lib.hid (own_ne_box hoi X_1.out (by decide))
        have HCN := Lib.hid (cell_one_new wb.drew (.int .i64 ZB) 3)
        have HOC := Lib.hid (ints_oneCell .i64 [ZB])
        obtain ⟨fl, hfl⟩ : ∃ l, ((adjK zs k) ZA).length = l := ⟨_, rfl⟩
        rw [hfl] at hlen
        have HFL := Lib.hid hfl
        clear hoi hlook hback hfl
        go_region_held3 (fun w' => w'.cell? ⟨bx, 0, none⟩ = some (.int .i64 ZA) ∧ w'.cell? ⟨bx, 1, none⟩ = some (.int .i64 ZB)) (go_keep)
          (first
            | (refine step_append_at rfl (.tmp 19) (.tmp 22) 22 rfl (w.heap.size + 1) 3 i0 _ 1 8 Tryz.underlying22 hi hz0 hz1 hz2 rfl (by decide) v fl (((adjK zs k) ZA).map (Value.int .i64)) (by simp [Act.eval] <;> rfl) (HFL.out ▸ HOI.out.1.alloc _) ⟨wb.heap.size, 0, none⟩ 1 1 [.int .i64 ZB] (by simp [Act.eval] <;> rfl) rfl HCN.out HOC.out (by unfold maxLen; omega) (by omega) (by simp; omega) ?_
               intro v' w1 hown' hgr hloc
               have hall0 := (World.grownBy_alloc wb.drew (.cells #[.int .i64 ZB] 3) v.ownBlock).trans hgr
               have hall : wb.grownBy w1 v.ownBlock := ⟨hall0.os, hall0.tape, hall0.output, hall0.size, hall0.block⟩
               clear hall0
               have hoi' := HOI.out.appended (w1 := w1) (v' := v') (x := ZB) (HFL.out ▸ hown') (WalkArith.wf_i64 (by omega))
               obtain ⟨w2, D', hrunU, hG2, hg2⟩ := HBK.out w1 v' ZB hall hoi' (hloc.imp id (fun h => ⟨_, h, by simp⟩))
               have X1 := heap_grown (w := wb) X_1.out hall (fun e => HVN.out e.symm)
               have X2 := heap_grown X1 hg2 (fun e => by have e9 : bx = w.heap.size := Option.some.inj e; omega)
               have hc0' : w1.cell? ⟨bx, 0, none⟩ = some (.int .i64 ZA) := by simp [World.cell?, X1]
               have hc1' : w1.cell? ⟨bx, 1, none⟩ = some (.int .i64 ZB) := by simp [World.cell?, X1]
               have hc0'' : w2.cell? ⟨bx, 0, none⟩ = some (.int .i64 ZA) := by simp [World.cell?, X2]
               have hc1'' : w2.cell? ⟨bx, 1, none⟩ = some (.int .i64 ZB) := by simp [World.cell?, X2]
               have HX2 := Lib.hid X2
               have HG2 := Lib.hid hG2
               have HB2 := Lib.hid ((B_2.out.grown hall (show w.heap.size ≤ wb.heap.size from B_2.out.size) (fun j hj => Nat.le_trans (Nat.le_succ _) (HOI.out.1.lt j hj).1)).grown hg2 (Nat.le_trans (show w.heap.size ≤ wb.heap.size from B_2.out.size) hall.size) (fun j hj => by have e9 : w.heap.size = j := Option.some.inj hj; omega))
               clear hown' hgr hloc hall hoi' X1 X2 hG2 hg2))
        all_goals go_wp2_with fail
        all_goals go_meet
        all_goals exact ⟨rfl, ⟨_, HG2.out⟩, HB2.out, HX2.out⟩
      obtain ⟨rfl, ⟨D_5, hG⟩, hB, hX⟩ := hcut
      have G_3 := Lib.hid hG
      have B_3 := Lib.hid hB
      have X_2 := Lib.hid hX
      clear hG hB hX G_2 B_2 X_1
      go_upto_region 6 with fail
      obtain ⟨v, hlook, hoi, hlen, hback⟩ := G_3.out.at_ (by unfold maxLen; omega) ZB (WalkArith.wf_i64 (by omega))
      have hc0 : wc.cell? ⟨bx, 0, none⟩ = some (.int .i64 ZA) := by simp [World.cell?, X_2.out]
      have hc1 : wc.cell? ⟨bx, 1, none⟩ = some (.int .i64 ZB) := by simp [World.cell?, X_2.out]
      have hBlt := G_3.out.lt.1
      have hlk1 := hlook wc.drew rfl
      have hlk2 := hlook (wc.alloc (.cells #[.int .i64 ZA] 3)).drew (by show (wc.alloc (.cells #[.int .i64 ZA] 3)).heap[w.heap.size]? = _; exact (World.grownBy_alloc wc (.cells #[.int .i64 ZA] 3) none).block _ hBlt (by simp))
      have HOI := Lib.hid hoi
      have HLK := Lib.hid hlook
      have HBK := Lib.hid hback
      have HVN := Lib.hid (own_ne_box hoi X_2.out (by decide))
      have HCN := Lib.hid (cell_one_new wc.drew (.int .i64 ZA) 3)
      have HOC := Lib.hid (ints_oneCell .i64 [ZA])
      obtain ⟨fl, hfl⟩ : ∃ l, ((updF (adjK zs k) ZA ZB) ZB).length = l := ⟨_, rfl⟩
      rw [hfl] at hlen
      have HFL := Lib.hid hfl
      clear hoi hlook hback hfl
      go_region_held3 (fun w' => w'.cell? ⟨bx, 0, none⟩ = some (.int .i64 ZA) ∧ w'.cell? ⟨bx, 1, none⟩ = some (.int .i64 ZB)) (go_keep)
        (first
          | (refine step_append_at rfl (.tmp 30) (.tmp 33) 22 rfl (w.heap.size + 1) 3 i0 _ 1 8 Tryz.underlying22 hi hz0 hz1 hz2 rfl (by decide) v fl (((updF (adjK zs k) ZA ZB) ZB).map (Value.int .i64)) (by simp [Act.eval] <;> rfl) (HFL.out ▸ HOI.out.1.alloc _) ⟨wc.heap.size, 0, none⟩ 1 1 [.int .i64 ZA] (by simp [Act.eval] <;> rfl) rfl HCN.out HOC.out (by unfold maxLen; omega) (by omega) (by simp; omega) ?_
             intro v' w1 hown' hgr hloc
             have hall0 := (World.grownBy_alloc wc.drew (.cells #[.int .i64 ZA] 3) v.ownBlock).trans hgr
             have hall : wc.grownBy w1 v.ownBlock := ⟨hall0.os, hall0.tape, hall0.output, hall0.size, hall0.block⟩
             clear hall0
             have hoi' := HOI.out.appended (w1 := w1) (v' := v') (x := ZA) (HFL.out ▸ hown') (WalkArith.wf_i64 (by omega))
             obtain ⟨w2, D', hrunU, hG2, hg2⟩ := HBK.out w1 v' ZA hall hoi' (hloc.imp id (fun h => ⟨_, h, by simp⟩))
             have X1 := heap_grown (w := wc) X_2.out hall (fun e => HVN.out e.symm)
             have X2 := heap_grown X1 hg2 (fun e => by have e9 : bx = w.heap.size := Option.some.inj e; omega)
             have hc0' : w1.cell? ⟨bx, 0, none⟩ = some (.int .i64 ZA) := by simp [World.cell?, X1]
             have hc1' : w1.cell? ⟨bx, 1, none⟩ = some (.int .i64 ZB) := by simp [World.cell?, X1]
             have hc0'' : w2.cell? ⟨bx, 0, none⟩ = some (.int .i64 ZA) := by simp [World.cell?, X2]
             have hc1'' : w2.cell? ⟨bx, 1, none⟩ = some (.int .i64 ZB) := by simp [World.cell?, X2]
             have HX2 := Lib.hid X2
             have HG2 := Lib.hid hG2
             have HB2 := Lib.hid ((B_3.out.grown hall (show w.heap.size ≤ wc.heap.size from B_3.out.size) (fun j hj => Nat.le_trans (Nat.le_succ _) (HOI.out.1.lt j hj).1)).grown hg2 (Nat.le_trans (show w.heap.size ≤ wc.heap.size from B_3.out.size) hall.size) (fun j hj => by have e9 : w.heap.size = j := Option.some.inj hj; omega))
             clear hown' hgr hloc hall hoi' X1 X2 hG2 hg2))
      all_goals have G_5 := Lib.hid (show GMap w2 w.heap.size (w.heap.size + 1) (2 * (k + 1)) (adjK zs (k + 1)) (endK zs (k + 1)) D' by rw [HE.out, HP.out]; exact HG2.out)
      all_goals clear HG2
      all_goals go_wp2
      all_goals exact ⟨⟨k + 1, D', by omega, by go_num, G_5.out, HB2.out⟩, by simp [intOf]; omega⟩
    · obtain rfl : k = n := by omega
      go_wp2
      go_ret
      refine ⟨rfl, ⟨D, ?_⟩, B_1.out⟩
      have h := G_1.out
      unfold adjK endK at h
      rw [List.take_of_length_le (by rw [HL.out]; exact Nat.le_refl _)] at h
      exact h
end Go.Proofs.YtgjaennedihckaaGreat
