/- Joined: XNatOk XNatCmp XNatToInt XTrim XNatOf XRow XNatAdd XNatSub XNatMul XFresh. Conditions: none. -/
import Derived.Test.YtodoiekbjjiocaaProg
import Derived.Test.YtodoiekbjjiocaaB1
import Derived.Laws.CopyOwn
import Derived.Deep.RegionLawGrows
import Derived.Laws.AppendOwnNone
namespace Go.Proofs.Ytodoiekbjjiocaa
open Go.RowKit Nt
set_option linter.unusedVariables false

/-- What NatOk answers. -/
def okI (xs : List Int) : Bool := decide (xs.length ≤ 60 ∧ (∀ x ∈ xs, 0 ≤ x ∧ x < 1000000000) ∧ xs.getLast? ≠ some 0)
theorem okI_iff {xs : List Int} : okI xs = true ↔ xs.length ≤ 60 ∧ (∀ x ∈ xs, 0 ≤ x ∧ x < 1000000000) ∧ xs.getLast? ≠ some 0 := by simp [okI]
theorem okI_false {xs : List Int} (h : ¬ (xs.length ≤ 60 ∧ (∀ x ∈ xs, 0 ≤ x ∧ x < 1000000000) ∧ xs.getLast? ≠ some 0)) : okI xs = false := by
  cases e : okI xs with
  | false => rfl
  | true => exact absurd (okI_iff.mp e) h
/-- The limbs of a number that is valid. -/
def toN (xs : List Int) : List Nat := xs.map Int.toNat
theorem okI_nats {xs : List Int} (h : okI xs = true) : ints xs = nats (toN xs) ∧ Canon (toN xs) ∧ (toN xs).length ≤ 60 := by
  unfold toN
  obtain ⟨h1, h2, h3⟩ := okI_iff.mp h
  have e : xs = (xs.map Int.toNat).map (fun d : Nat => (d : Int)) := by
    rw [List.map_map]
    conv => lhs; rw [← List.map_id xs]
    apply List.map_congr_left
    intro x hx
    have := h2 x hx
    simp; omega
  refine ⟨by rw [nats, ← e], ⟨?_, ?_⟩, by simpa using h1⟩
  · intro d hd
    obtain ⟨x, hx, rfl⟩ := List.mem_map.mp hd
    have := h2 x hx
    omega
  · rw [List.getLast?_map]
    intro hl
    cases hq : xs.getLast? with
    | none => rw [hq] at hl; simp at hl
    | some x =>
      have hx := h2 x (List.mem_of_getLast? hq)
      rw [hq] at hl h3
      simp at hl h3
      omega
theorem okI_of_nats {ds : List Nat} (h : Canon ds) (hl : ds.length ≤ 60) : okI (ds.map fun d : Nat => (d : Int)) = true := by
  rw [okI_iff]
  refine ⟨by simpa using hl, ?_, ?_⟩
  · intro x hx
    obtain ⟨d, hd, rfl⟩ := List.mem_map.mp hx
    have := h.1 d hd
    omega
  · rw [List.getLast?_map]
    have := h.2
    cases hq : ds.getLast? with
    | none => simp
    | some x => rw [hq] at this; simp at this ⊢; omega
theorem toN_nats (ds : List Nat) : toN (ds.map fun d : Nat => (d : Int)) = ds := by simp [toN, Function.comp_def]
theorem toN_len (xs : List Int) : (toN xs).length = xs.length := by simp [toN]
theorem last_at {xs : List Int} (h : 0 < xs.length) : xs.getLast? = some (xs[xs.length - 1]'(by omega)) := by
  rw [List.getLast?_eq_getElem?, List.getElem?_eq_getElem]

end Go.Proofs.Ytodoiekbjjiocaa
namespace Go.Proofs.Ytodoiekbjjiocaa
open Go.RowKit Nt
set_option linter.unusedVariables false

theorem sgn_lt {a b : Nat} (h : a < b) : sgn a b = -1 := by rw [sgn, if_pos h]
theorem sgn_gt {a b : Nat} (h : b < a) : sgn a b = 1 := by rw [sgn, if_neg (by omega), if_neg (by omega)]
theorem sgn_eq {a b : Nat} (h : a = b) : sgn a b = 0 := by rw [sgn, if_neg (by omega), if_pos h]
/-- What NatCmp answers. -/
def cmpI (xs ys : List Int) : Int := if okI xs = true ∧ okI ys = true then sgn (val (toN xs)) (val (toN ys)) else 0

end Go.Proofs.Ytodoiekbjjiocaa
namespace Go.Proofs.Ytodoiekbjjiocaa
open Go.RowKit Nt
set_option linter.unusedVariables false

/-- What NatToInt answers. -/
def fitsI (xs : List Int) : Bool := okI xs && decide (val (toN xs) ≤ 9223372036854775807)
def intI (xs : List Int) : Int := if fitsI xs = true then (val (toN xs) : Nat) else 0
theorem fits_iff {xs : List Int} : fitsI xs = true ↔ okI xs = true ∧ val (toN xs) ≤ 9223372036854775807 := by simp [fitsI]
theorem val_drop_le (ds : List Nat) (k : Nat) : val (ds.drop k) ≤ val ds := by
  by_cases h : k ≤ ds.length
  · rw [val_take_drop ds k h]
    have h1 : val (ds.drop k) ≤ 1000000000 ^ k * val (ds.drop k) := Nat.le_mul_of_pos_left _ (pow_pos k)
    omega
  · rw [List.drop_of_length_le (by omega)]; simp [val]
theorem ret_two {z z' : Int} {b b' : Bool} (h1 : z = z') (h2 : b = b') : Ending.returned (.tuple #[.int .i64 z, .bool b]) = .returned (.tuple #[.int .i64 z', .bool b']) := by rw [h1, h2]
theorem int_no {xs : List Int} (h : fitsI xs = false) : (0 : Int) = intI xs := by simp [intI, h]
theorem int_yes {xs : List Int} (h : fitsI xs = true) : ((val (toN xs) : Nat) : Int) = intI xs := by simp [intI, h]

end Go.Proofs.Ytodoiekbjjiocaa
namespace Go.Proofs.Ytodoiekbjjiocaa
open Go.RowKit Nt
set_option linter.unusedVariables false

end Go.Proofs.Ytodoiekbjjiocaa
namespace Go.Proofs.Ytodoiekbjjiocaa
open Go.RowKit Nt
set_option linter.unusedVariables false

theorem cell_new (w : World) (x : Value) (t : TypeId) : ∀ j u, [x][j]? = some u → (w.alloc (.cells #[x] t)).cell? ((⟨w.heap.size, 0, none⟩ : Addr).add j) = some u := by
  intro j u hj
  cases j with
  | zero => simp at hj; subst hj; simp [Addr.add]
  | succ j => simp at hj
end Go.Proofs.Ytodoiekbjjiocaa
namespace Go.Proofs.Ytodoiekbjjiocaa
open Go.RowKit Nt
set_option linter.unusedVariables false

theorem whole_heap {w : World} {base g : Nat} {e : TypeId} {ys : List Value} (h : Whole w base g e ys) : w.heap[g]? = some (.cells ys.toArray e (0, 0)) := by
  rcases h.2 with ⟨hv, _⟩ | ⟨g', cap, cur, hv, hb, hh, hnc, hcm, hcs, ht⟩
  · simp at hv
  · obtain ⟨rfl, rfl⟩ : g = g' ∧ ys.length = cap := by simpa using hv
    rw [hh]
    have e : cur.toList = ys := by
      rw [← ht, List.take_of_length_le]
      have : cur.toList.length = cur.size := by simp
      omega
    rw [← e]
theorem whole_of {w : World} {base g : Nat} {e : TypeId} {ys : List Value} (hb : base ≤ g) (h : w.heap[g]? = some (.cells ys.toArray e (0, 0))) (hl : ys.length ≤ maxLen) : Whole w base g e ys :=
  ⟨by simp, .inr ⟨g, _, ys.toArray, rfl, hb, h, Nat.le_refl _, hl, by simp, by simp⟩⟩
/-- Y with F laid over it from place o on, k places. -/
def upd (Y : List Nat) (o k : Nat) (F : Nat → Nat) : List Nat := Y.take o ++ ((List.range k).map F ++ Y.drop (o + k))
theorem upd_len (Y : List Nat) (o k : Nat) (F : Nat → Nat) (h : o + k ≤ Y.length) : (upd Y o k F).length = Y.length := by simp [upd]; omega
theorem upd_zero (Y : List Nat) (o : Nat) (F : Nat → Nat) : upd Y o 0 F = Y := by simp [upd]
theorem upd_get? (Y : List Nat) (o k : Nat) (F : Nat → Nat) (h : o + k < Y.length) : (upd Y o k F)[o + k]? = some Y[o + k] := by
  unfold upd
  rw [List.getElem?_append_right (by simp; omega), List.getElem?_append_right (by simp; omega), List.getElem?_drop]
  have e : o + k + (o + k - (Y.take o).length - ((List.range k).map F).length) = o + k := by simp; omega
  rw [e, List.getElem?_eq_getElem h]
theorem upd_set (Y : List Nat) (o k : Nat) (F : Nat → Nat) (h : o + k < Y.length) : (upd Y o k F).set (o + k) (F k) = upd Y o (k + 1) F := by
  unfold upd
  rw [List.set_append_right _ _ (by simp; omega)]
  have e : o + k - (Y.take o).length = k := by simp; omega
  have s := set_step F (Y.drop o) k (by simp; omega)
  rw [List.drop_drop, List.drop_drop] at s
  rw [e, s]
theorem digs_upd {Y : List Nat} {o k : Nat} {F : Nat → Nat} (hY : Digs Y) (hF : Digs ((List.range k).map F)) : Digs (upd Y o k F) := (hY.take o).app (hF.app (hY.drop _))
theorem win_getD (Y : List Nat) (o n k : Nat) (hk : k < n) (h : o + n ≤ Y.length) : ((Y.drop o).take n).getD k 0 = Y[o + k]'(by omega) := by
  rw [List.getD_eq_getElem?_getD, List.getElem?_take_of_lt hk, List.getElem?_drop, List.getElem?_eq_getElem (by omega)]
  rfl
theorem add_off (g o k : Nat) : (⟨g, o, none⟩ : Addr).add k = ⟨g, o + k, none⟩ := by unfold Addr.add; split <;> simp_all
/-- What 'copy' does to a block of its own. -/
theorem run_copy_any {P : Program} {w : World} (dT sT ty elem : TypeId) (hu : P.underlying dT = some (.slice elem)) (hsz : (P.info? elem).map (·.size) = some 1)
    (dp sp : Option Addr) (dLen dCap sLen sCap : Nat) (g off : Nat) (cur : List Value) (t : TypeId) (hg : w.heap[g]? = some (.cells cur.toArray t (0, 0))) (cs : List Value) (hn : cs.length = Nat.min sLen dLen)
    (hpos : 0 < cs.length → dp = some ⟨g, off, none⟩ ∧ ∃ ad, sp = some ad ∧ ∀ j v, cs[j]? = some v → w.cell? (ad.add j) = some v)
    (hfit : off + cs.length ≤ cur.length) (h1 : ∀ v ∈ cs, v.oneCell' = true) (B : Nat) (w0 : World) (hb : Below B w0 w) (hBg : B ≤ g) :
    ∃ w', (Builtin.copy_ #[dT, sT] ty #[.slice dp dLen dCap, .slice sp sLen sCap]).run P w = .ok (goInt cs.length) w' ∧ w'.heap[g]? = some (.cells (splice cur off cs).toArray t (0, 0)) ∧ Below B w0 w' := by
  by_cases h0 : cs.length = 0
  · obtain rfl : cs = [] := List.eq_nil_of_length_eq_zero h0
    exact ⟨w, run_copy_none (P := P) w dT sT ty elem dp sp dLen dCap sLen sCap hu hsz (by simpa using hn.symm), by simpa [splice] using hg, hb⟩
  · obtain ⟨rfl, ad, rfl, hsrc⟩ := hpos (by omega)
    exact ⟨_, run_copy_row (P := P) w dT sT ty elem g off dLen dCap ad sLen sCap cur.toArray t cs hu hsz hg hn hsrc (by simpa using hfit) h1, by simpa [splice] using setRow_heap w g _ _ t _ hg, below_setRow hb hBg _⟩
theorem VRow.off {w : World} {B : Option Addr} {m g : Nat} {xs : List Value} (h : VRow w B m xs) (hg : w.heap.size ≤ g) : 0 < m → ∀ a : Addr, B = some a → a.block ≠ g := by
  intro hm a ha
  obtain ⟨g', o, rfl, hlt, _⟩ := h.2 hm
  obtain rfl : (⟨g', o, none⟩ : Addr) = a := by simpa using ha
  simp; omega
theorem nats_replicate (n : Nat) : nats (List.replicate n 0) = List.replicate n (.int .i64 0) := by simp [nats, ints]
theorem nats_oneCell (ds : List Nat) : ∀ v ∈ nats ds, v.oneCell' = true := by
  intro v hv
  simp [nats, ints] at hv
  obtain ⟨a, _, rfl⟩ := hv
  rfl

/-- The limbs of a number that has at most 60 of them, else none. -/
def capd (n : Nat) : List Nat := if (dig n).length ≤ 60 then dig n else []
theorem capd_len (n : Nat) : (capd n).length ≤ 60 := by unfold capd; split <;> simp_all
theorem capd_of {n : Nat} (h : n < 1000000000 ^ 60) : capd n = dig n := by rw [capd, if_pos (dig_len h)]
theorem OwnV.of_whole {w : World} {base g : Nat} {e : TypeId} {ys : List Value} (h : Whole w base g e ys) : OwnV w base e (.slice (some ⟨g, 0, none⟩) ys.length ys.length) ys :=
  .inr ⟨g, _, ys, rfl, Nat.le_refl _, Nat.le_refl _, h, List.take_length⟩
theorem dig_le_len {ds : List Nat} (h : Digs ds) : (dig (val ds)).length ≤ ds.length := dig_len (val_lt h)
/-- The limbs that are left of a row are its first ones. -/
theorem take_dig {ds : List Nat} (h : Digs ds) : ds.take (dig (val ds)).length = dig (val ds) := by
  exact canon_pre h
theorem Whole.set2 {w : World} {base g : Nat} {e : TypeId} {ys : List Value} (h : Whole w base g e ys) (j : Nat) (u v : Value) : Whole ((w.setCell ⟨g, j, none⟩ u).setCell ⟨g, j, none⟩ v) base g e (ys.set j v) := by
  have := (h.set j u).set j v
  rwa [List.set_set] at this
theorem Whole.set2Grown {w : World} {base g : Nat} {e : TypeId} {ys : List Value} (h : Whole w base g e ys) (j : Nat) (u v : Value) : w.grownBy ((w.setCell ⟨g, j, none⟩ u).setCell ⟨g, j, none⟩ v) (some g) :=
  grown_grown (h.setGrown j u) ((h.set j u).setGrown j v)
end Go.Proofs.Ytodoiekbjjiocaa
namespace Go.Proofs.Ytodoiekbjjiocaa
open Go.RowKit Nt
set_option linter.unusedVariables false

theorem car_one (y b : List Nat) (k : Nat) (hy : Digs y) (hb : Digs b) : car y b 1 k ≤ 1 := by
  induction k with
  | zero => simp [car]
  | succ k ih =>
    have h1 := hy.getD k
    have h2 := hb.getD k
    simp only [car]
    omega
/-- The sum that a loop of addTimes leaves, where nothing is carried out. -/
theorem add_val (Y bs : List Nat) (f n : Nat) (hn : Y.length = n) (hb : bs.length ≤ n) (hlt : val Y + f * val bs < 1000000000 ^ n) : val ((List.range n).map (sumAt Y bs f)) = val Y + f * val bs ∧ car Y bs f n = 0 := by
  have h := car_sum Y bs f n
  rw [List.take_of_length_le (by omega), List.take_of_length_le hb] at h
  have h0 : car Y bs f n = 0 := by
    rcases Nat.eq_zero_or_pos (car Y bs f n) with h0 | h0
    · exact h0
    · have := Nat.le_mul_of_pos_right (1000000000 ^ n) h0
      omega
  rw [vs_range]
  rw [h0] at h
  exact ⟨by omega, h0⟩
theorem upd_all (Y : List Nat) (n : Nat) (F : Nat → Nat) (hn : Y.length = n) : upd Y 0 n F = (List.range n).map F := by
  simp [upd, List.drop_of_length_le (show Y.length ≤ n by omega)]
theorem val_pad (ds : List Nat) (k : Nat) : val (ds ++ List.replicate k 0) = val ds := by rw [val_append, val_zeros]; simp
theorem digs_pad {ds : List Nat} (h : Digs ds) (k : Nat) : Digs (ds ++ List.replicate k 0) := h.app (digs_replicate k)
/-- What NatAdd answers. -/
def addN (xs ys : List Int) : List Nat := if okI xs = true ∧ okI ys = true then capd (val (toN xs) + val (toN ys)) else []
theorem addN_len (xs ys : List Int) : (addN xs ys).length ≤ 60 := by unfold addN; split; exact capd_len _; simp
theorem addN_yes {xs ys : List Int} (h1 : okI xs = true) (h2 : okI ys = true) : addN xs ys = capd (val (toN xs) + val (toN ys)) := by rw [addN, if_pos ⟨h1, h2⟩]
theorem addN_no {xs ys : List Int} (h : okI xs = false ∨ okI ys = false) : addN xs ys = [] := by rw [addN, if_neg (by rintro ⟨h1, h2⟩; rcases h with h | h <;> simp_all)]

theorem OwnV.nil_cap {w : World} {base : Nat} {e : TypeId} {A : Option Addr} {n c : Nat} {xs : List Value} (h : OwnV w base e (.slice A n c) xs) : A = none → c = 0 := by
  rintro rfl
  rcases h with ⟨hv, _⟩ | ⟨g, c', ys, hv, _⟩
  · simp at hv; exact hv.2
  · simp at hv
end Go.Proofs.Ytodoiekbjjiocaa
namespace Go.Proofs.Ytodoiekbjjiocaa
open Go.RowKit Nt
set_option linter.unusedVariables false

theorem bor_one (y b : List Nat) (k : Nat) (hy : Digs y) (hb : Digs b) : bor y b 1 k ≤ 1 := by
  induction k with
  | zero => simp [bor]
  | succ k ih =>
    have h2 := hb.getD k
    have h1 := hy.getD k
    simp only [bor]
    split <;> omega
theorem dif_one (y b : List Nat) (k : Nat) (hy : Digs y) (hb : Digs b) : (y.getD k 0 < bor y b 1 k + b.getD k 0 → difAt y b 1 k = y.getD k 0 + 1000000000 - (bor y b 1 k + b.getD k 0) ∧ bor y b 1 (k + 1) = 1) ∧ (¬ y.getD k 0 < bor y b 1 k + b.getD k 0 → difAt y b 1 k = y.getD k 0 - (bor y b 1 k + b.getD k 0) ∧ bor y b 1 (k + 1) = 0) := by
  have h0 := bor_one y b k hy hb
  have h2 := hb.getD k
  have h1 := hy.getD k
  simp only [bor, difAt, Nat.mul_one]
  generalize y.getD k 0 = u at *
  generalize b.getD k 0 = v at *
  generalize bor y b 1 k = s at *
  constructor
  · intro h
    by_cases h3 : s + v = 1000000000
    · rw [h3]; constructor <;> simp
    · have e : (s + v) % 1000000000 = s + v := Nat.mod_eq_of_lt (by omega)
      have e2 : (s + v) / 1000000000 = 0 := Nat.div_eq_of_lt (by omega)
      rw [e, e2, if_pos h, if_pos h]; omega
  · intro h
    have e : (s + v) % 1000000000 = s + v := Nat.mod_eq_of_lt (by omega)
    have e2 : (s + v) / 1000000000 = 0 := Nat.div_eq_of_lt (by omega)
    rw [e, e2, if_neg h, if_neg h]; omega
/-- The difference that a loop of subtractTimes leaves, where nothing is owed. -/
theorem sub_val (Y bs : List Nat) (f n : Nat) (hY : Digs Y) (hn : Y.length = n) (hb : bs.length ≤ n) (hle : f * val bs ≤ val Y) : val ((List.range n).map (difAt Y bs f)) = val Y - f * val bs ∧ bor Y bs f n = 0 := by
  have h := bor_sum Y bs f n
  rw [List.take_of_length_le hb, List.take_of_length_le (show Y.length ≤ n by omega)] at h
  have hlt := val_lt (difAt_digs Y bs f n hY)
  rw [List.length_map, List.length_range, vs_range] at hlt
  have h0 : bor Y bs f n = 0 := by
    rcases Nat.eq_zero_or_pos (bor Y bs f n) with h0 | h0
    · exact h0
    · have := Nat.le_mul_of_pos_right (1000000000 ^ n) h0
      omega
  rw [vs_range]
  rw [h0] at h
  exact ⟨by omega, h0⟩
theorem canon_len {a b : List Nat} (ha : Canon a) (hb : Digs b) (h : val a ≤ val b) : a.length ≤ b.length := by
  rcases Nat.lt_or_ge b.length a.length with h1 | h1
  · have := val_lt_len hb ha h1; omega
  · exact h1
/-- What NatSub answers. -/
def subN (xs ys : List Int) : List Nat := if okI xs = true ∧ okI ys = true then dig (val (toN xs) - val (toN ys)) else []
theorem subN_yes {xs ys : List Int} (h1 : okI xs = true) (h2 : okI ys = true) : subN xs ys = dig (val (toN xs) - val (toN ys)) := by rw [subN, if_pos ⟨h1, h2⟩]
theorem subN_no {xs ys : List Int} (h : okI xs = false ∨ okI ys = false) : subN xs ys = [] := by rw [subN, if_neg (by rintro ⟨h1, h2⟩; rcases h with h | h <;> simp_all)]
theorem subN_len (xs ys : List Int) : (subN xs ys).length ≤ 60 := by
  unfold subN
  split
  · rename_i h
    obtain ⟨_, h1, h2⟩ := okI_nats h.1
    refine dig_len (Nat.lt_of_le_of_lt (Nat.sub_le _ _) (Nat.lt_of_lt_of_le (val_lt h1.1) (Nat.pow_le_pow_right (by decide) h2)))
  · simp
theorem cmpI_nats (ds es : List Nat) (h1 : Canon ds) (h2 : Canon es) (h3 : ds.length ≤ 60) (h4 : es.length ≤ 60) : cmpI (ds.map fun d : Nat => (d : Int)) (es.map fun d : Nat => (d : Int)) = sgn (val ds) (val es) := by
  rw [cmpI, if_pos ⟨okI_of_nats h1 h3, okI_of_nats h2 h4⟩, toN_nats, toN_nats]
end Go.Proofs.Ytodoiekbjjiocaa
namespace Go.Proofs.Ytodoiekbjjiocaa
open Go.RowKit Nt
set_option linter.unusedVariables false

theorem made_whole {w : World} {base g N : Nat} (h : w.ownsRow base 3 1 (.slice (some ⟨g, 0, none⟩) N N) N (madeCells (Value.int .i64 0).cells (N * 1)).toList) : Whole w base g 3 (nats (List.replicate N 0)) := by
  have hz : (madeCells (Value.int .i64 0).cells (N * 1)).toList = nats (List.replicate N 0) := by
    rw [nats_replicate, Nat.mul_one]; exact toList_madeCells_one _ _
  rw [hz] at h
  unfold Whole
  rw [nats_len, List.length_replicate]
  exact h
theorem val_upd (Y : List Nat) (o r : Nat) (F : Nat → Nat) (h : o + r ≤ Y.length) : val (upd Y o r F) = val (Y.take o) + 1000000000 ^ o * (vs F r + 1000000000 ^ r * val (Y.drop (o + r))) := by
  unfold upd
  rw [val_append, val_append, vs_range, List.length_take, Nat.min_eq_left (by omega), List.length_map, List.length_range]
theorem val_win (Y : List Nat) (o r : Nat) (h : o + r ≤ Y.length) : val Y = val (Y.take o) + 1000000000 ^ o * (val ((Y.drop o).take r) + 1000000000 ^ r * val (Y.drop (o + r))) := by
  rw [val_take_drop Y o (by omega), val_take_drop (Y.drop o) r (by simp; omega), List.drop_drop]
theorem drop_upd (Y : List Nat) (o r : Nat) (F : Nat → Nat) (h : o + r ≤ Y.length) : (upd Y o r F).drop (o + r) = Y.drop (o + r) := by
  unfold upd
  rw [← List.append_assoc, List.drop_left' (by simp; omega)]
/-- One round of the multiplication: x times es is added at place k. -/
theorem mul_step (Y es : List Nat) (k m x : Nat) (hY : Digs Y) (hm : es.length = m) (hes : Digs es) (hx : x < 1000000000) (hl : k + m + 1 ≤ Y.length) (hz : val (Y.drop (k + m)) = 0) :
    Digs (upd Y k (m + 1) (sumAt ((Y.drop k).take (m + 1)) es x)) ∧ val (upd Y k (m + 1) (sumAt ((Y.drop k).take (m + 1)) es x)) = val Y + 1000000000 ^ k * (x * val es) ∧ val ((upd Y k (m + 1) (sumAt ((Y.drop k).take (m + 1)) es x)).drop (k + 1 + m)) = 0 ∧ sumAt ((Y.drop k).take (m + 1)) es x m = car ((Y.drop k).take (m + 1)) es x m := by
  have hd := val_drop_succ Y (k + m) (by omega)
  rw [hz] at hd
  have hz1 : val (Y.drop (k + m + 1)) = 0 := by omega
  have hY0 : Y[k + m] = 0 := by omega
  have hyd : Digs ((Y.drop k).take (m + 1)) := (hY.drop k).take _
  have hy0 : ((Y.drop k).take (m + 1)).getD m 0 = 0 := by rw [win_getD Y k (m + 1) m (by omega) (by omega)]; exact hY0
  have e1 := val_upd Y k (m + 1) (sumAt ((Y.drop k).take (m + 1)) es x) (by omega)
  have e2 := val_win Y k (m + 1) (by omega)
  have e3 := drop_upd Y k (m + 1) (sumAt ((Y.drop k).take (m + 1)) es x) (by omega)
  have hyl : ((Y.drop k).take (m + 1)).length ≤ m + 1 := by simp; omega
  have z0 : ∀ a b : Nat, a + b * 0 = a := by intro a b; rw [Nat.mul_zero]; rfl
  rw [← Nat.add_assoc k m 1, hz1, z0] at e1 e2
  generalize (Y.drop k).take (m + 1) = ys at *
  have hcl := car_lt ys es x m hyd hes hx
  have he0 : es.getD m 0 = 0 := by simp [List.getElem?_eq_none (show es.length ≤ m by omega)]
  have hF : sumAt ys es x m = car ys es x m := by
    simp only [sumAt]
    rw [hy0, he0, Nat.zero_mul]
    omega
  have hc : car ys es x (m + 1) = 0 := by
    simp only [car]
    rw [hy0, he0, Nat.zero_mul]
    omega
  have hs := car_sum ys es x (m + 1)
  rw [hc, Nat.mul_zero, Nat.add_zero, List.take_of_length_le (show es.length ≤ m + 1 by omega), List.take_of_length_le hyl] at hs
  refine ⟨digs_upd hY (sumAt_digs _ _ _ _), ?_, ?_, hF⟩
  · rw [e1, e2, hs, Nat.mul_add, Nat.add_assoc]
  · have e4 : k + 1 + m = k + (m + 1) := by omega
    rw [e4, e3]
    exact hz1
/-- What NatMul answers. -/
def mulN (xs ys : List Int) : List Nat := if okI xs = true ∧ okI ys = true then capd (val (toN xs) * val (toN ys)) else []
theorem mulN_len (xs ys : List Int) : (mulN xs ys).length ≤ 60 := by unfold mulN; split; exact capd_len _; simp
theorem mulN_yes {xs ys : List Int} (h1 : okI xs = true) (h2 : okI ys = true) : mulN xs ys = capd (val (toN xs) * val (toN ys)) := by rw [mulN, if_pos ⟨h1, h2⟩]
theorem mulN_no {xs ys : List Int} (h : okI xs = false ∨ okI ys = false) : mulN xs ys = [] := by rw [mulN, if_neg (by rintro ⟨h1, h2⟩; rcases h with h | h <;> simp_all)]

end Go.Proofs.Ytodoiekbjjiocaa
namespace Go.Proofs.Ytodoiekbjjiocaa
open Go.RowKit
set_option linter.unusedVariables false

/-- A row appended to an empty one without room, as one step of a region that draws its order: the answer lies in new memory. -/
theorem step_append_fresh {P : Program} {ops : Array Oper} {o : Oper} {a : Act} {w : World} {K : Act → World → Prop} {Q : Exit → Act → World → Prop} {E : Prop}
    (hg : o.guard = none) (s x : Operand) (t : TypeId) (hop : o.op = Op.call { callee := Callee.builtin Builtin.append, args := #[s, x], argTypes := #[t, t] })
    (e : TypeId) (i : TypeInfo) (z : Value) (bytes : Nat) (h1 : P.underlying t = some (.slice e)) (h2 : P.info? e = some i) (h3 : i.zero = some z) (h4 : i.size = 1) (h5 : i.bytes = bytes) (h6 : z.cells.size = 1)
    (ao : Option Addr) (hs : a.eval s = .slice ao 0 0) (A : Option Addr) (m c : Nat) (news : List Value) (hx : a.eval x = .slice A m c) (hm : 0 < m) (b1 : m ≤ maxLen) (b2 : m * bytes ≤ 140737488355328) (h1c : ∀ u ∈ news, u.oneCell' = true) (hrow : VRow w A m news)
    (hK : ∀ A' c' w', OwnV w' w.heap.size e (.slice A' news.length c') news → Below w.heap.size w w' → K (a.put o.dst (.slice A' news.length c')) w') :
    if Region.wanted o (yielded ops a.tmps) = true then Oper.wp P o a w K Q else E := by
  obtain ⟨g, of, rfl, hgl, hc⟩ := hrow.2 hm
  refine step_append_grows hg s x t hop e i z 1 bytes h1 h2 h3 h4 h5 h6 (by decide) ao 0 0 [] hs (fun _ => ⟨rfl, rfl⟩) rfl (fun _ _ j u hj => by simp at hj) ⟨g, of, none⟩ m c news hx (by have := hrow.1; omega) (fun j u hj => ?_) h1c (by omega) (by omega) (by simpa using b2) ?_
  · have hjl : j < m := by have h2 := (List.getElem?_eq_some_iff.mp hj).1; have := hrow.1; omega
    have := hc j hjl
    rw [hj] at this
    rw [Addr.add_lit]
    exact this
  · intro v' w' hown hgr
    have ho := OwnV.of_own hown
    rw [List.nil_append] at ho
    obtain ⟨A', c', rfl⟩ := ho.shape
    exact hK A' c' w' ho ((Below.refl w.heap.size w).grown hgr (Nat.le_refl _) (fun k hk => by simp at hk))
/-- A row appended to an empty one that was made here: the answer lies behind base. -/
theorem step_append_row {P : Program} {ops : Array Oper} {o : Oper} {a : Act} {w : World} {K : Act → World → Prop} {Q : Exit → Act → World → Prop} {E : Prop}
    (hg : o.guard = none) (s x : Operand) (t : TypeId) (hop : o.op = Op.call { callee := Callee.builtin Builtin.append, args := #[s, x], argTypes := #[t, t] })
    (e : TypeId) (i : TypeInfo) (z : Value) (bytes : Nat) (h1 : P.underlying t = some (.slice e)) (h2 : P.info? e = some i) (h3 : i.zero = some z) (h4 : i.size = 1) (h5 : i.bytes = bytes) (h6 : z.cells.size = 1)
    (base g : Nat) (hs : a.eval s = .slice (some ⟨g, 0, none⟩) 0 0) (A : Option Addr) (m c : Nat) (news : List Value) (hx : a.eval x = .slice A m c) (hnil : A = none → c = 0) (b1 : m ≤ maxLen) (b2 : m * bytes ≤ 140737488355328) (h1c : ∀ u ∈ news, u.oneCell' = true) (hW : Whole w base g e []) (hrow : VRow w A m news) (hbase : base ≤ w.heap.size)
    (hK : ∀ A' c' w', OwnV w' base e (.slice A' news.length c') news → Below base w w' → K (a.put o.dst (.slice A' news.length c')) w') :
    if Region.wanted o (yielded ops a.tmps) = true then Oper.wp P o a w K Q else E := by
  have hw : Region.wanted o (yielded ops a.tmps) = true := by simp [Region.wanted, hg]
  have hbg : base ≤ g := (OwnV.of_whole hW).lt g rfl |>.1
  rw [if_pos hw]
  cases A with
  | none =>
    obtain rfl : c = 0 := hnil rfl
    obtain rfl : m = 0 := by
      rcases Nat.eq_zero_or_pos m with h0 | h0
      · exact h0
      · obtain ⟨g, o, e, _⟩ := hrow.2 h0; simp at e
    obtain rfl : news = [] := List.eq_nil_of_length_eq_zero hrow.1
    have hrun := run_append_owned_none (P := P) (w := w) base t o.type e i 1 h1 h2 (.slice (some ⟨g, 0, none⟩) 0 0) 0 [] hW
    unfold Oper.wp
    simp [execOp, hop, resolve, invoke, builtin, hs, hx, hrun, Result.andThen]
    exact hK _ _ w (OwnV.of_whole hW) (Below.refl _ _)
  | some ad =>
    refine wp_append_own w s x t hop base e i z 1 bytes h1 h2 h3 h4 h5 h6 (by decide) _ 0 [] hs hW ad m c news hx (by have := hrow.1; omega) ?_ h1c (by omega) (by simpa using b2) hbase ?_
    · intro j u hj
      have hjl : j < m := by have h2 := (List.getElem?_eq_some_iff.mp hj).1; have := hrow.1; omega
      obtain ⟨g', of, hA, _, hc⟩ := hrow.2 (by omega)
      obtain rfl : ad = ⟨g', of, none⟩ := Option.some.inj hA
      have := hc j hjl
      rw [hj] at this
      rw [Addr.add_lit]
      exact this
    · intro v' w' hown hgr _
      have ho := OwnV.of_own hown
      rw [List.nil_append] at ho
      obtain ⟨A', c', rfl⟩ := ho.shape
      exact hK A' c' w' ho ((Below.refl base w).grown hgr hbase (fun k hk => by have e9 : g = k := Option.some.inj hk; omega))
/-- An empty row that was made. -/
theorem whole_empty (w : World) (e : TypeId) : Whole (w.alloc (.cells #[] e)) w.heap.size w.heap.size e [] := World.ownsRow_made (base := w.heap.size) (e := e) (size := 1) w #[] 0 (Nat.le_refl _) (Nat.zero_le _) rfl
end Go.Proofs.Ytodoiekbjjiocaa
