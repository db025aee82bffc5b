/- Joined: XNatMath XMem XOwn XHeld XOpen XHelpI XHelpB XHelpR XOpenB XOpenR XDivMath. Conditions: none. -/
import Derived.WalkKit
import Derived.WalkSpells
import Derived.WalkLawsBesides
import Derived.LoopTactic
import Derived.Outline
import Derived.Lib.Hide
import Derived.Deep.AppendLies
import Derived.Deep.QuietTactic
import Derived.BigQuiet
import Derived.Deep.RegionHeld3
import Derived.ProofKit
import Derived.OpenShut
import Derived.ChangeOld
import Derived.SliceStrings
import Derived.Test.YtaboodioabopnaaGreatProg
import Derived.Lib.SmallJoins
import Derived.Deep.DeepCutAuto
namespace Go.Proofs.YtaboodioabopnaaGreat.Nt
def val : List Nat → Nat
 | [] => 0
 | d :: ds => d + 1000000000 * val ds
def dig (n : Nat) : List Nat := if h : n = 0 then [] else n % 1000000000 :: dig (n / 1000000000)
termination_by n
decreasing_by omega
def Digs (ds : List Nat) : Prop := ∀ d ∈ ds, d < 1000000000
def Canon (ds : List Nat) : Prop := Digs ds ∧ ds.getLast? ≠ some 0
def vs (g : Nat → Nat) : Nat → Nat
 | 0 => 0
 | i + 1 => vs g i + 1000000000 ^ i * g i
theorem dig_zero : dig 0 = [] := by rw [dig, dif_pos rfl]
theorem dig_pos {n : Nat} (h : 0 < n) : dig n = n % 1000000000 :: dig (n / 1000000000) := by rw [dig, dif_neg (by omega)]
theorem val_append (a b : List Nat) : val (a ++ b) = val a + 1000000000 ^ a.length * val b := by
 induction a with
 | nil => simp [val]
 | cons d ds ih => simp only [List.cons_append, val, ih, List.length_cons, Nat.pow_succ]; grind
theorem val_dig (n : Nat) : val (dig n) = n := by
 induction n using Nat.strongRecOn with
 | _ n ih =>
   by_cases h : n = 0
   · subst h; rw [dig_zero]; rfl
   · rw [dig_pos (by omega), val, ih _ (by omega)]; omega
theorem dig_digs (n : Nat) : Digs (dig n) := by
 induction n using Nat.strongRecOn with
 | _ n ih =>
   by_cases h : n = 0
   · subst h; rw [dig_zero]; intro d hd; simp at hd
   · rw [dig_pos (by omega)]
     intro d hd
     rcases List.mem_cons.mp hd with rfl | hd
     · omega
     · exact ih _ (by omega) d hd
theorem dig_ne {n : Nat} (h : 0 < n) : dig n ≠ [] := by rw [dig_pos h]; simp
theorem dig_nil_iff {n : Nat} : dig n = [] ↔ n = 0 := by
 constructor
 · intro h; have := val_dig n; rw [h] at this; simpa [val] using this.symm
 · rintro rfl; exact dig_zero
theorem dig_can (n : Nat) : Canon (dig n) := by
 refine ⟨dig_digs n, ?_⟩
 induction n using Nat.strongRecOn with
 | _ n ih =>
   by_cases h : n = 0
   · subst h; rw [dig_zero]; simp
   · rw [dig_pos (by omega), List.getLast?_cons]
     by_cases h2 : n / 1000000000 = 0
     · rw [h2, dig_zero]; simp; omega
     · have := ih _ (by omega : n / 1000000000 < n)
       cases hq : (dig (n / 1000000000)).getLast? with
       | none => rw [List.getLast?_eq_none_iff] at hq; exact absurd hq (dig_ne (by omega))
       | some x => rw [hq] at this; simpa using this
theorem Digs.tail {d : Nat} {ds : List Nat} (h : Digs (d :: ds)) : Digs ds := fun x hx => h x (List.mem_cons_of_mem _ hx)
theorem Digs.head {d : Nat} {ds : List Nat} (h : Digs (d :: ds)) : d < 1000000000 := h d List.mem_cons_self
theorem Digs.nil : Digs [] := fun x hx => by simp at hx
theorem Digs.app {a b : List Nat} (ha : Digs a) (hb : Digs b) : Digs (a ++ b) := fun x hx => (List.mem_append.mp hx).elim (ha x) (hb x)
theorem Digs.take {a : List Nat} (ha : Digs a) (k : Nat) : Digs (a.take k) := fun x hx => ha x (List.mem_of_mem_take hx)
theorem Digs.drop {a : List Nat} (ha : Digs a) (k : Nat) : Digs (a.drop k) := fun x hx => ha x (List.mem_of_mem_drop hx)
theorem Digs.get {a : List Nat} (ha : Digs a) {k : Nat} (hk : k < a.length) : a[k] < 1000000000 := ha _ (List.getElem_mem hk)
theorem Digs.getD {a : List Nat} (ha : Digs a) (k : Nat) : a.getD k 0 < 1000000000 := by
 by_cases hk : k < a.length
 · simpa [hk] using ha.get hk
 · simp [List.getD, List.getElem?_eq_none (by omega : a.length ≤ k)]
theorem digs_replicate (n : Nat) : Digs (List.replicate n 0) := fun x hx => by rw [(List.mem_replicate.mp hx).2]; omega
theorem Canon.nil : Canon [] := ⟨Digs.nil, by simp⟩
theorem Canon.tail {d : Nat} {ds : List Nat} (h : Canon (d :: ds)) : Canon ds := by
 refine ⟨h.1.tail, fun e => h.2 ?_⟩
 rw [List.getLast?_cons, e]; rfl
theorem can_val_zero {ds : List Nat} (h : Canon ds) (h0 : val ds = 0) : ds = [] := by
 induction ds with
 | nil => rfl
 | cons d ds ih =>
   exfalso
   simp only [val] at h0
   have e := ih h.tail (by omega)
   subst e
   apply h.2
   simp; omega
theorem dig_of_can {ds : List Nat} (h : Canon ds) : dig (val ds) = ds := by
 induction ds with
 | nil => simp [val, dig_zero]
 | cons d ds ih =>
   have hd := h.1.head
   have hp : 0 < val (d :: ds) := by
     rcases Nat.eq_zero_or_pos (val (d :: ds)) with h0 | h0
     · exact absurd (can_val_zero h h0) (by simp)
     · exact h0
   rw [dig_pos hp, val]
   have e1 : (d + 1000000000 * val ds) % 1000000000 = d := by omega
   have e2 : (d + 1000000000 * val ds) / 1000000000 = val ds := by omega
   rw [e1, e2, ih h.tail]
theorem val_lt {ds : List Nat} (h : Digs ds) : val ds < 1000000000 ^ ds.length := by
 induction ds with
 | nil => simp [val]
 | cons d ds ih =>
   have := ih h.tail
   have := h.head
   simp only [val, List.length_cons, Nat.pow_succ]
   omega
theorem pow_pos (k : Nat) : 0 < 1000000000 ^ k := Nat.pow_pos (by decide)
theorem can_pos {ds : List Nat} (h : Canon ds) (hl : 0 < ds.length) : 1000000000 ^ (ds.length - 1) ≤ val ds := by
 induction ds with
 | nil => simp at hl
 | cons d ds ih =>
   cases ds with
   | nil =>
     have := h.2
     simp at this
     simp [val]; omega
   | cons e es =>
     have := ih h.tail (by simp)
     simp only [List.length_cons, Nat.add_sub_cancel, val, Nat.pow_succ] at this ⊢
     omega
theorem can_zero_iff {ds : List Nat} (h : Canon ds) : val ds = 0 ↔ ds = [] := ⟨can_val_zero h, fun e => by subst e; rfl⟩
theorem can_len_le {ds : List Nat} (h : Canon ds) {k : Nat} (hk : val ds < 1000000000 ^ k) : ds.length ≤ k := by
 rcases Nat.eq_zero_or_pos ds.length with h0 | h0
 · omega
 · have h1 := can_pos h h0
   have h2 : 1000000000 ^ (ds.length - 1) < 1000000000 ^ k := by omega
   have h3 := (Nat.pow_lt_pow_iff_right (by decide : 1 < 1000000000)).mp h2
   omega
theorem dig_len {n k : Nat} (h : n < 1000000000 ^ k) : (dig n).length ≤ k := can_len_le (dig_can n) (by rw [val_dig]; exact h)
theorem dig_len_iff {n k : Nat} : (dig n).length ≤ k ↔ n < 1000000000 ^ k := by
 refine ⟨fun h => ?_, dig_len⟩
 have h1 := val_lt (dig_digs n)
 rw [val_dig] at h1
 exact Nat.lt_of_lt_of_le h1 (Nat.pow_le_pow_right (by decide) h)
theorem val_take_drop (ds : List Nat) (k : Nat) (hk : k ≤ ds.length) : val ds = val (ds.take k) + 1000000000 ^ k * val (ds.drop k) := by
 have h := val_append (ds.take k) (ds.drop k)
 rw [List.take_append_drop, List.length_take, Nat.min_eq_left hk] at h
 exact h
theorem val_zeros (k : Nat) : val (List.replicate k 0) = 0 := by
 induction k with
 | zero => rfl
 | succ k ih => simp [List.replicate_succ, val, ih]
theorem val_drop_succ (ds : List Nat) (k : Nat) (hk : k < ds.length) : val (ds.drop k) = ds[k] + 1000000000 * val (ds.drop (k + 1)) := by
 rw [List.drop_eq_getElem_cons hk]; rfl
theorem val_take_succ (ds : List Nat) (k : Nat) (hk : k < ds.length) : val (ds.take (k + 1)) = val (ds.take k) + 1000000000 ^ k * ds[k] := by
 rw [List.take_add_one, List.getElem?_eq_getElem hk, Option.toList_some, val_append, List.length_take, Nat.min_eq_left (by omega)]
 simp [val]
theorem vs_range (g : Nat → Nat) (i : Nat) : val ((List.range i).map g) = vs g i := by
 induction i with
 | zero => rfl
 | succ i ih => rw [List.range_succ, List.map_append, val_append, ih]; simp [vs, val]
theorem vs_take (ds : List Nat) (i : Nat) : vs (fun j => ds.getD j 0) i = val (ds.take i) := by
 induction i with
 | zero => simp [vs, val]
 | succ i ih =>
   by_cases h : i < ds.length
   · rw [val_take_succ _ _ h, vs, ih]; simp [h]
   · rw [vs, ih, List.take_of_length_le (by omega : ds.length ≤ i), List.take_of_length_le (by omega : ds.length ≤ i + 1)]
     simp [List.getElem?_eq_none (by omega : ds.length ≤ i)]
theorem vs_all (ds : List Nat) (i : Nat) (h : ds.length ≤ i) : vs (fun j => ds.getD j 0) i = val ds := by rw [vs_take, List.take_of_length_le h]
def car (y b : List Nat) (f : Nat) : Nat → Nat
 | 0 => 0
 | i + 1 => (y.getD i 0 + car y b f i + b.getD i 0 * f) / 1000000000
def sumAt (y b : List Nat) (f i : Nat) : Nat := (y.getD i 0 + car y b f i + b.getD i 0 * f) % 1000000000
theorem car_sum (y b : List Nat) (f i : Nat) : vs (sumAt y b f) i + 1000000000 ^ i * car y b f i = val (y.take i) + f * val (b.take i) := by
 rw [← vs_take, ← vs_take]
 induction i with
 | zero => simp [vs, car]
 | succ i ih =>
   have h : sumAt y b f i + 1000000000 * car y b f (i + 1) = y.getD i 0 + car y b f i + b.getD i 0 * f := by
     simp only [sumAt, car]; omega
   simp only [vs, Nat.pow_succ]
   generalize y.getD i 0 = u at *
   generalize b.getD i 0 = v at *
   grind
theorem car_lt (y b : List Nat) (f i : Nat) (hy : Digs y) (hb : Digs b) (hf : f < 1000000000) : car y b f i < 1000000000 := by
 induction i with
 | zero => simp [car]
 | succ i ih =>
   have h1 := hy.getD i
   have h2 := hb.getD i
   simp only [car]
   have h3 : b.getD i 0 * f ≤ 999999999 * 999999999 := Nat.mul_le_mul (by omega) (by omega)
   omega
theorem sumAt_digs (y b : List Nat) (f n : Nat) : Digs ((List.range n).map (sumAt y b f)) := by
 intro d hd
 obtain ⟨i, _, rfl⟩ := List.mem_map.mp hd
 simp only [sumAt]; omega
def bor (y b : List Nat) (f : Nat) : Nat → Nat
 | 0 => 0
 | i + 1 => (bor y b f i + b.getD i 0 * f) / 1000000000 + if y.getD i 0 < (bor y b f i + b.getD i 0 * f) % 1000000000 then 1 else 0
def difAt (y b : List Nat) (f i : Nat) : Nat :=
 if y.getD i 0 < (bor y b f i + b.getD i 0 * f) % 1000000000 then y.getD i 0 + 1000000000 - (bor y b f i + b.getD i 0 * f) % 1000000000 else y.getD i 0 - (bor y b f i + b.getD i 0 * f) % 1000000000
theorem bor_sum (y b : List Nat) (f i : Nat) : vs (difAt y b f) i + f * val (b.take i) = val (y.take i) + 1000000000 ^ i * bor y b f i := by
 rw [← vs_take, ← vs_take]
 induction i with
 | zero => simp [vs, bor]
 | succ i ih =>
   have h : difAt y b f i + (bor y b f i + b.getD i 0 * f) = y.getD i 0 + 1000000000 * bor y b f (i + 1) := by
     simp only [difAt, bor]; split <;> omega
   simp only [vs, Nat.pow_succ]
   generalize y.getD i 0 = u at *
   generalize b.getD i 0 = v at *
   grind
theorem bor_le (y b : List Nat) (f i : Nat) (hb : Digs b) (hf : f ≤ 1000000000) : bor y b f i ≤ 1000000000 := by
 induction i with
 | zero => simp [bor]
 | succ i ih =>
   have h2 := hb.getD i
   simp only [bor]
   have h3 : b.getD i 0 * f ≤ 999999999 * 1000000000 := Nat.mul_le_mul (by omega) (by omega)
   split <;> omega
theorem difAt_digs (y b : List Nat) (f n : Nat) (hy : Digs y) : Digs ((List.range n).map (difAt y b f)) := by
 intro d hd
 obtain ⟨i, _, rfl⟩ := List.mem_map.mp hd
 have := hy.getD i
 simp only [difAt]; split <;> omega
def sgn (x y : Nat) : Int := if x < y then -1 else if x = y then 0 else 1
theorem val_lt_len {a b : List Nat} (ha : Digs a) (hb : Canon b) (h : a.length < b.length) : val a < val b := by
 have h1 := val_lt ha
 have h2 := can_pos hb (by omega)
 have h3 : 1000000000 ^ a.length ≤ 1000000000 ^ (b.length - 1) := Nat.pow_le_pow_right (by decide) (by omega)
 omega
theorem val_lt_at {a b : List Nat} (ha : Digs a) (i : Nat) (hia : i < a.length) (hib : i < b.length) (he : a.drop (i + 1) = b.drop (i + 1)) (hlt : a[i] < b[i]) : val a < val b := by
 rw [val_take_drop a i (by omega), val_take_drop b i (by omega), val_drop_succ a i hia, val_drop_succ b i hib, he]
 have h1 := val_lt (ha.take i)
 rw [List.length_take, Nat.min_eq_left (by omega)] at h1
 generalize val (b.drop (i + 1)) = X
 have h2 : 1000000000 ^ i * (a[i] + 1000000000 * X + 1) ≤ 1000000000 ^ i * (b[i] + 1000000000 * X) := Nat.mul_le_mul_left _ (by omega)
 rw [Nat.mul_add, Nat.mul_one] at h2
 omega
theorem drop_eq_succ {a b : List Nat} (i : Nat) (hia : i < a.length) (hib : i < b.length) (he : a.drop (i + 1) = b.drop (i + 1)) (h : a[i] = b[i]) : a.drop i = b.drop i := by
 rw [List.drop_eq_getElem_cons hia, List.drop_eq_getElem_cons hib, he, h]
theorem trim_at {ds : List Nat} (h : Digs ds) (m : Nat) (hm : m ≤ ds.length) (hv : val (ds.take m) = val ds) (hl : m = 0 ∨ ds.getD (m - 1) 0 ≠ 0) : ds.take m = dig (val ds) := by
 rw [← hv, dig_of_can]
 refine ⟨h.take m, ?_⟩
 rcases hl with rfl | hl
 · simp
 · by_cases h0 : m = 0
   · subst h0; simp
   rw [List.getLast?_eq_getElem?, List.length_take, Nat.min_eq_left hm, List.getElem?_take_of_lt (by omega)]
   intro e
   apply hl
   simp [List.getD, e]
theorem trim_step {ds : List Nat} (m : Nat) (hm : m + 1 ≤ ds.length) (h0 : ds.getD m 0 = 0) : val (ds.take (m + 1)) = val (ds.take m) := by
 rw [val_take_succ _ _ (by omega)]
 have : ds[m] = 0 := by simpa [List.getD, show m < ds.length by omega] using h0
 rw [this]; simp
theorem canon_pre {ds : List Nat} (h : Digs ds) : ds.take (dig (val ds)).length = dig (val ds) := by
 have key : ∀ m, m ≤ ds.length → val (ds.take m) = val ds → ds.take (dig (val ds)).length = dig (val ds) := by
   intro m
   induction m with
   | zero =>
     intro hm hv
     have e := trim_at h 0 hm hv (.inl rfl)
     rw [← e]; simp
   | succ m ih =>
     intro hm hv
     by_cases h0 : ds.getD m 0 = 0
     · exact ih (by omega) (by rw [← trim_step m hm h0]; exact hv)
     · have e := trim_at h (m + 1) hm hv (.inr (by simpa using h0))
       rw [← e]
       simp
 exact key ds.length (Nat.le_refl _) (by rw [List.take_length])
end Go.Proofs.YtaboodioabopnaaGreat.Nt
namespace Go.Proofs.YtaboodioabopnaaGreat
open Go.RowKit
theorem ret_bool {a b : Bool} (h : a = b) : Ending.returned (.bool a) = .returned (.bool b) := by rw [h]
theorem ret_int {k : IntKind} {a b : Int} (h : a = b) : Ending.returned (.int k a) = .returned (.int k b) := by rw [h]
def VRow (w : World) (A : Option Addr) (n : Nat) (xs : List Value) : Prop :=
 xs.length = n ∧ (0 < n → ∃ g o, A = some ⟨g, o, none⟩ ∧ g < w.heap.size ∧ ∀ k, k < n → w.cell? ⟨g, o + k, none⟩ = xs[k]?)
section
variable {w w' : World} {A : Option Addr} {n c : Nat} {xs : List Value}
theorem VRow.empty (w : World) (A : Option Addr) : VRow w A 0 [] := ⟨rfl, fun h => absurd h (Nat.lt_irrefl 0)⟩
theorem VRow.below {B : Nat} (h : VRow w A n xs) (hb : Below B w w') (hB : w.heap.size ≤ B) : VRow w' A n xs := by
 refine ⟨h.1, fun hn => ?_⟩
 obtain ⟨g, o, rfl, hg, hc⟩ := h.2 hn
 refine ⟨g, o, rfl, Nat.lt_of_lt_of_le hg hb.size, fun k hk => ?_⟩
 rw [hb.cell (p := ⟨g, o + k, none⟩) (Nat.lt_of_lt_of_le hg hB)]
 exact hc k hk
theorem VRow.drewN (h : VRow w A n xs) (k : Nat) : VRow (w.drewN k) A n xs := h
theorem VRow.grown {row : Option Nat} (h : VRow w A n xs) (hg : w.grownBy w' row) (hne : ∀ a : Addr, A = some a → some a.block ≠ row) : VRow w' A n xs := by
 refine ⟨h.1, fun hn => ?_⟩
 obtain ⟨g, o, rfl, hlt, hc⟩ := h.2 hn
 refine ⟨g, o, rfl, Nat.lt_of_lt_of_le hlt hg.size, fun k hk => ?_⟩
 rw [World.cell?_of_block (w := w) (a := ⟨g, o + k, none⟩) (hg.block g hlt (hne _ rfl))]
 exact hc k hk
theorem VRow.of_own {base : Nat} {e : TypeId} (h : w.ownsRow base e 1 (.slice A n c) n xs) : VRow w A n xs := by
 refine ⟨by simpa using h.1, fun hn => ?_⟩
 obtain ⟨g, cap, hv, _, hlt⟩ := h.form hn
 obtain ⟨rfl, _, rfl⟩ : A = some ⟨g, 0, none⟩ ∧ n = n ∧ c = cap := by simpa using hv
 refine ⟨g, 0, rfl, hlt, fun k hk => ?_⟩
 rw [Nat.zero_add]
 exact h.cellAt k (by omega)
theorem VRow.at_ {k : Nat} (h : VRow w A n xs) (hk : k < n) : ∃ g o, A = some ⟨g, o, none⟩ ∧ g < w.heap.size ∧ w.cell? ⟨g, o + k, none⟩ = some (xs[k]'(by have := h.1; omega)) := by
 obtain ⟨g, o, e, hg, hc⟩ := h.2 (by omega)
 exact ⟨g, o, e, hg, (hc k hk).trans (List.getElem?_eq_getElem _)⟩
theorem own_base {base base' : Nat} {e : TypeId} {size : Nat} {v : Value} (h : w.ownsRow base e size v n xs) (hb : base' ≤ base) : w.ownsRow base' e size v n xs := by
 refine ⟨h.1, ?_⟩
 rcases h.2 with h2 | ⟨g, cap, cur, hv, hg, r⟩
 · exact .inl h2
 · exact .inr ⟨g, cap, cur, hv, Nat.le_trans hb hg, r⟩
theorem own_shape {base : Nat} {e : TypeId} {size : Nat} {v : Value} (h : w.ownsRow base e size v n xs) : ∃ A c, v = .slice A n c := by
 rcases h.2 with ⟨rfl, rfl⟩ | ⟨g, cap, cur, rfl, _⟩
 · exact ⟨_, _, rfl⟩
 · exact ⟨_, _, rfl⟩
theorem own_below {base : Nat} {e : TypeId} {size : Nat} {v : Value} (h : w.ownsRow base e size v n xs) (hb : Below w.heap.size w w') : w'.ownsRow base e size v n xs :=
 h.kept (row := none) ⟨hb.os, hb.tape, hb.output, hb.size, fun k hk _ => hb.block k hk⟩ (by cases hv : v.ownBlock <;> simp)
theorem below_drewN {B : Nat} {a w : World} (h : Below B a w) (k : Nat) : Below B a (w.drewN k) := ⟨h.os, h.tape, h.output, h.size, h.block⟩
end
theorem grown_grown {w wr w1 : World} {row : Option Nat} (h : w.grownBy wr row) (hg : wr.grownBy w1 row) : w.grownBy w1 row :=
 ⟨hg.os.trans h.os, hg.tape.trans h.tape, hg.output.trans h.output, Nat.le_trans h.size hg.size, fun k hk hne => (hg.block k (Nat.lt_of_lt_of_le hk h.size) hne).trans (h.block k hk hne)⟩
theorem own_cap {w : World} {base : Nat} {e : TypeId} {size : Nat} {A : Option Addr} {n c : Nat} {xs : List Value} (h : w.ownsRow base e size (.slice A n c) n xs) : n ≤ c ∧ c ≤ maxLen := by
 rcases h.2 with ⟨hv, hn⟩ | ⟨g, cap, cur, hv, hg, hh, hnc, hcm, _⟩
 · obtain ⟨rfl, rfl, rfl⟩ : A = none ∧ n = 0 ∧ c = 0 := by simpa using hv
   exact ⟨Nat.le_refl _, by unfold maxLen; omega⟩
 · obtain ⟨rfl, rfl⟩ : A = some ⟨g, 0, none⟩ ∧ c = cap := by simpa using hv
   exact ⟨hnc, hcm⟩
theorem range_map_getD {α β : Type} (f : α → β) (d : α) (xs : List α) : (List.range xs.length).map (fun i => f (xs.getD i d)) = xs.map f := by
 apply List.ext_getElem
 · simp
 · intro i h1 h2
   have hi : i < xs.length := by simpa using h2
   simp [hi]
theorem set_step {α : Type} (f : Nat → α) (xs : List α) (j : Nat) (hj : j < xs.length) :
   ((List.range j).map f ++ xs.drop j).set j (f j) = (List.range (j + 1)).map f ++ xs.drop (j + 1) := by
 rw [List.set_append_right _ _ (by simp)]
 simp only [List.length_map, List.length_range, Nat.sub_self, List.range_succ, List.map_append, List.map_cons, List.map_nil, List.append_assoc]
 congr 1
 rw [List.drop_eq_getElem_cons hj]
 rfl
def IsInts (k : IntKind) (w : World) (a : Option Addr) (len cap : Nat) (zs : List Int) : Prop :=
 VRow w a len (zs.map (.int k)) ∧ len ≤ cap ∧ cap ≤ maxLen ∧ ∀ n ∈ zs, (Lit.int k n).wf = true
end Go.Proofs.YtaboodioabopnaaGreat
namespace Go.Proofs.YtaboodioabopnaaGreat
open Go.RowKit
set_option linter.unusedVariables false
def Whole (w : World) (base g : Nat) (e : TypeId) (ys : List Value) : Prop := w.ownsRow base e 1 (.slice (some ⟨g, 0, none⟩) ys.length ys.length) ys.length ys
def OwnV (w : World) (base : Nat) (e : TypeId) (v : Value) (xs : List Value) : Prop :=
 (v = .slice none 0 0 ∧ xs = []) ∨ ∃ g c ys, v = .slice (some ⟨g, 0, none⟩) xs.length c ∧ xs.length ≤ c ∧ c ≤ ys.length ∧ Whole w base g e ys ∧ ys.take xs.length = xs
def ints (zs : List Int) : List Value := zs.map (.int .i64)
def nats (ds : List Nat) : List Value := ints (ds.map fun d : Nat => (d : Int))
def OwnR (e : TypeId) (xs : List Value) (w : World) (en : Ending) (w' : World) : Prop :=
 ∃ v, en = .returned v ∧ OwnV w' w.heap.size e v xs ∧ Below w.heap.size w w'
section
variable {w w' : World} {base : Nat} {e : TypeId} {v : Value} {xs ys : List Value} {g : Nat}
theorem nats_len (ds : List Nat) : (nats ds).length = ds.length := by simp [nats, ints]
theorem ints_len (ds : List Int) : (ints ds).length = ds.length := by simp [ints]
theorem nats_get (ds : List Nat) (k : Nat) (h : k < (nats ds).length) : (nats ds)[k] = .int .i64 (ds[k]'(by rw [nats_len] at h; exact h) : Nat) := by simp [nats, ints]
theorem ints_get (ds : List Int) (k : Nat) (h : k < (ints ds).length) : (ints ds)[k] = .int .i64 (ds[k]'(by rw [ints_len] at h; exact h)) := by simp [ints]
theorem nats_take (ds : List Nat) (k : Nat) : (nats ds).take k = nats (ds.take k) := by simp [nats, ints]
theorem nats_drop (ds : List Nat) (k : Nat) : (nats ds).drop k = nats (ds.drop k) := by simp [nats, ints]
theorem nats_app (a b : List Nat) : nats (a ++ b) = nats a ++ nats b := by simp [nats, ints]
theorem nats_set (ds : List Nat) (k d : Nat) : (nats ds).set k (.int .i64 (d : Int)) = nats (ds.set k d) := by simp [nats, ints, List.map_set]
theorem Whole.len_le (h : Whole w base g e ys) : ys.length ≤ maxLen := (own_cap h).2
theorem Whole.lt (h : Whole w base g e ys) : base ≤ g ∧ g < w.heap.size := World.ownsRow.lt h g rfl
theorem Whole.cell (h : Whole w base g e ys) (j : Nat) (hj : j < ys.length) : w.cell? ⟨g, j, none⟩ = some ys[j] := by
 rw [World.ownsRow.cellAt h j (by omega)]; exact List.getElem?_eq_getElem _
theorem Whole.frozen (h : Whole w base g e ys) (j : Nat) : w.frozen? ⟨g, j, none⟩ = false := World.ownsRow.frozenAt h j
theorem Whole.set (h : Whole w base g e ys) (j : Nat) (u : Value) : Whole (w.setCell ⟨g, j, none⟩ u) base g e (ys.set j u) := by
 have := (World.ownsRow.stored h j u).1
 unfold Whole
 rwa [List.length_set]
theorem Whole.setGrown (h : Whole w base g e ys) (j : Nat) (u : Value) : w.grownBy (w.setCell ⟨g, j, none⟩ u) (some g) := (World.ownsRow.stored h j u).2
theorem Whole.kept {row : Option Nat} (h : Whole w base g e ys) (hg : w.grownBy w' row) (hne : some g ≠ row) : Whole w' base g e ys := World.ownsRow.kept h hg (.inr hne)
theorem Whole.below (h : Whole w base g e ys) (hb : Below w.heap.size w w') : Whole w' base g e ys := own_below h hb
theorem Whole.drewN (h : Whole w base g e ys) (k : Nat) : Whole (w.drewN k) base g e ys := h
theorem Whole.based {base' : Nat} (h : Whole w base g e ys) (hb : base' ≤ base) : Whole w base' g e ys := own_base h hb
theorem Whole.row (h : Whole w base g e ys) (o n : Nat) (hn : o + n ≤ ys.length) : VRow w (some ⟨g, o, none⟩) n ((ys.drop o).take n) := by
 refine ⟨by simp; omega, fun _ => ⟨g, o, rfl, h.lt.2, fun k hk => ?_⟩⟩
 rw [h.cell (o + k) (by omega), List.getElem?_take_of_lt hk, List.getElem?_drop, List.getElem?_eq_getElem]
theorem OwnV.nil (w : World) (base : Nat) (e : TypeId) : OwnV w base e (.slice none 0 0) [] := .inl ⟨rfl, rfl⟩
theorem whole_of_own {c n : Nat} (h : w.ownsRow base e 1 (.slice (some ⟨g, 0, none⟩) n c) n xs) : ∃ ys, Whole w base g e ys ∧ ys.take n = xs ∧ ys.length = c ∧ n ≤ c := by
 rcases h.2 with ⟨hv, _⟩ | ⟨g', cap, cur, hv, hb, hh, hnc, hcm, hcs, ht⟩
 · simp at hv
 · obtain ⟨rfl, rfl⟩ : g = g' ∧ c = cap := by simpa using hv
   have hl : cur.toList.length = c := by simpa using hcs
   refine ⟨cur.toList, ⟨by simp, .inr ⟨g, _, cur, rfl, hb, hh, Nat.le_refl _, by omega, by omega, by rw [Nat.mul_one]; exact List.take_length⟩⟩, by simpa using ht, hl, hnc⟩
theorem OwnV.of_own {n : Nat} (h : w.ownsRow base e 1 v n xs) : OwnV w base e v xs := by
 have hl : xs.length = n := by simpa using h.1
 subst hl
 rcases h.2 with ⟨hv, h0⟩ | ⟨g, cap, cur, hv, hb, hh, hnc, hcm, hcs, ht⟩
 · exact .inl ⟨hv, List.eq_nil_of_length_eq_zero h0⟩
 · subst hv
   obtain ⟨ys, h1, h2, h3, h4⟩ := whole_of_own h
   exact .inr ⟨g, cap, ys, rfl, hnc, by omega, h1, h2⟩
theorem OwnV.shape (h : OwnV w base e v xs) : ∃ A c, v = .slice A xs.length c := by
 rcases h with ⟨rfl, rfl⟩ | ⟨g, c, ys, rfl, _⟩
 · exact ⟨_, _, rfl⟩
 · exact ⟨_, _, rfl⟩
theorem OwnV.len {A : Option Addr} {n c : Nat} (h : OwnV w base e (.slice A n c) xs) : xs.length = n := by
 obtain ⟨A', c', hv⟩ := h.shape
 simp at hv; omega
theorem OwnV.cap {A : Option Addr} {n c : Nat} (h : OwnV w base e (.slice A n c) xs) : n ≤ c ∧ c ≤ maxLen := by
 rcases h with ⟨hv, _⟩ | ⟨g, c', ys, hv, h1, h2, h3, _⟩
 · obtain ⟨rfl, rfl, rfl⟩ : A = none ∧ n = 0 ∧ c = 0 := by simpa using hv
   exact ⟨Nat.le_refl _, by unfold maxLen; omega⟩
 · obtain ⟨rfl, rfl, rfl⟩ : A = some ⟨g, 0, none⟩ ∧ n = xs.length ∧ c = c' := by simpa using hv
   exact ⟨h1, Nat.le_trans h2 h3.len_le⟩
theorem OwnV.row {A : Option Addr} {n c : Nat} (h : OwnV w base e (.slice A n c) xs) : VRow w A n xs := by
 rcases h with ⟨hv, rfl⟩ | ⟨g, c', ys, hv, h1, h2, h3, h4⟩
 · obtain ⟨rfl, rfl, rfl⟩ : A = none ∧ n = 0 ∧ c = 0 := by simpa using hv
   exact VRow.empty _ _
 · obtain ⟨rfl, rfl, rfl⟩ : A = some ⟨g, 0, none⟩ ∧ n = xs.length ∧ c = c' := by simpa using hv
   have := h3.row 0 xs.length (by omega)
   simpa [h4] using this
theorem OwnV.kept {row : Option Nat} (h : OwnV w base e v xs) (hg : w.grownBy w' row) (hne : v.ownBlock = none ∨ v.ownBlock ≠ row) : OwnV w' base e v xs := by
 rcases h with h | ⟨g, c, ys, rfl, h1, h2, h3, h4⟩
 · exact .inl h
 · exact .inr ⟨g, c, ys, rfl, h1, h2, h3.kept hg (by simpa [Value.ownBlock] using hne), h4⟩
theorem OwnV.below (h : OwnV w base e v xs) (hb : Below w.heap.size w w') : OwnV w' base e v xs := by
 rcases h with h | ⟨g, c, ys, rfl, h1, h2, h3, h4⟩
 · exact .inl h
 · exact .inr ⟨g, c, ys, rfl, h1, h2, h3.below hb, h4⟩
theorem OwnV.drewN (h : OwnV w base e v xs) (k : Nat) : OwnV (w.drewN k) base e v xs := h
theorem OwnV.based {base' : Nat} (h : OwnV w base e v xs) (hb : base' ≤ base) : OwnV w base' e v xs := by
 rcases h with h | ⟨g, c, ys, rfl, h1, h2, h3, h4⟩
 · exact .inl h
 · exact .inr ⟨g, c, ys, rfl, h1, h2, h3.based hb, h4⟩
theorem OwnV.lt (h : OwnV w base e v xs) : ∀ k, v.ownBlock = some k → base ≤ k ∧ k < w.heap.size := by
 rcases h with ⟨rfl, _⟩ | ⟨g, c, ys, rfl, h1, h2, h3, h4⟩
 · intro k hk; simp [Value.ownBlock] at hk
 · intro k hk
   obtain rfl : g = k := by simpa [Value.ownBlock] using hk
   exact h3.lt
theorem OwnV.apart {w2 : World} {b2 : Nat} {e2 : TypeId} {v2 : Value} {xs2 : List Value} (h1 : OwnV w base e v xs) (h2 : OwnV w2 b2 e2 v2 xs2) (hb : w.heap.size ≤ b2) : v.ownBlock = none ∨ v.ownBlock ≠ v2.ownBlock := by
 cases h : v.ownBlock with
 | none => exact .inl rfl
 | some k =>
   refine .inr fun e => ?_
   have a := (h1.lt k h).2
   have b := (h2.lt k e.symm).1
   omega
theorem OwnV.apart' {w2 : World} {b2 : Nat} {e2 : TypeId} {v2 : Value} {xs2 : List Value} (h1 : OwnV w base e v xs) (h2 : OwnV w2 b2 e2 v2 xs2) (hb : w2.heap.size ≤ base) : v.ownBlock = none ∨ v.ownBlock ≠ v2.ownBlock := by
 cases h : v.ownBlock with
 | none => exact .inl rfl
 | some k =>
   refine .inr fun e => ?_
   have a := (h1.lt k h).1
   have b := (h2.lt k e.symm).2
   omega
theorem OwnV.spot {A : Option Addr} {n c j : Nat} (h : OwnV w base e (.slice A n c) xs) (hj : j < n) :
   ∃ g, A = some ⟨g, 0, none⟩ ∧ g < w.heap.size ∧ base ≤ g ∧ w.cell? ⟨g, j, none⟩ = some (xs[j]'(by have := h.len; omega)) ∧ w.frozen? ⟨g, j, none⟩ = false ∧
     ∀ u, OwnV (w.setCell ⟨g, j, none⟩ u) base e (.slice A n c) (xs.set j u) ∧ w.grownBy (w.setCell ⟨g, j, none⟩ u) (some g) := by
 rcases h with ⟨hv, _⟩ | ⟨g, c', ys, hv, h1, h2, h3, h4⟩
 · simp at hv; omega
 · obtain ⟨rfl, rfl, rfl⟩ : A = some ⟨g, 0, none⟩ ∧ n = xs.length ∧ c = c' := by simpa using hv
   refine ⟨g, rfl, h3.lt.2, h3.lt.1, ?_, h3.frozen j, fun u => ⟨.inr ⟨g, c, ys.set j u, by simp, by simpa using h1, by simpa using h2, h3.set j u, ?_⟩, h3.setGrown j u⟩⟩
   · rw [h3.cell j (by omega)]
     congr 1
     have : (ys.take xs.length)[j]'(by simp; omega) = xs[j] := by simp [h4]
     rw [← this, List.getElem_take]
   · rw [List.length_set, List.take_set, h4]
theorem OwnV.cut {A : Option Addr} {n c m c2 : Nat} (h : OwnV w base e (.slice A n c) xs) (hm : m ≤ n) (h1 : m ≤ c2) (h2 : c2 ≤ c) : OwnV w base e (.slice A m c2) (xs.take m) := by
 rcases h with ⟨hv, rfl⟩ | ⟨g, c', ys, hv, a1, a2, a3, a4⟩
 · obtain ⟨rfl, rfl, rfl⟩ : A = none ∧ n = 0 ∧ c = 0 := by simpa using hv
   obtain rfl : m = 0 := by omega
   obtain rfl : c2 = 0 := by omega
   exact .inl ⟨rfl, by simp⟩
 · obtain ⟨rfl, rfl, rfl⟩ : A = some ⟨g, 0, none⟩ ∧ n = xs.length ∧ c = c' := by simpa using hv
   have hl : (xs.take m).length = m := by simp; omega
   refine .inr ⟨g, c2, ys, by rw [hl], by omega, by omega, a3, ?_⟩
   rw [hl, ← a4, List.take_take]
   congr 1
   omega
end
end Go.Proofs.YtaboodioabopnaaGreat
namespace Go.Proofs.YtaboodioabopnaaGreat
open Go.RowKit
set_option linter.unusedVariables false
structure HeldL (u : World) (b : Nat) (vs : List Value) : Prop where
 lt : b < u.heap.size
 cell : ∀ (j : Nat) (v : Value), vs[j]? = some v → u.cell? ⟨b, j, none⟩ = some v
 froz : ∀ (j : Nat) (v : Value), vs[j]? = some v → u.frozen? ⟨b, j, none⟩ = false
section
variable {u u' : World} {b : Nat} {vs : List Value}
theorem HeldL.same (h : HeldL u b vs) (hs : u.heap.size ≤ u'.heap.size) (e : u'.heap[b]? = u.heap[b]?) : HeldL u' b vs :=
 ⟨Nat.lt_of_lt_of_le h.lt hs, fun j v hj => (World.cell?_of_block (w := u) (a := ⟨b, j, none⟩) e).trans (h.cell j v hj), fun j v hj => (World.frozen?_of_block (w := u) (a := ⟨b, j, none⟩) e).trans (h.froz j v hj)⟩
theorem HeldL.after (h : HeldL u b vs) (hb : Below u.heap.size u u') : HeldL u' b vs := h.same hb.size (hb.block b h.lt)
theorem HeldL.drew (h : HeldL u b vs) : HeldL u.drew b vs := ⟨h.lt, h.cell, h.froz⟩
theorem HeldL.alloc (h : HeldL u b vs) (o : Obj) : HeldL (u.alloc o) b vs := h.after ((Below.refl _ _).alloc (Nat.le_refl _) o)
theorem HeldL.grown {row : Option Nat} (h : HeldL u b vs) (hg : u.grownBy u' row) (hne : some b ≠ row) : HeldL u' b vs := h.same hg.size (hg.block b h.lt hne)
theorem HeldL.setOther (h : HeldL u b vs) {p : Addr} (hp : b ≠ p.block) (v : Value) : HeldL (u.setCell p v) b vs := h.same (by simp) (Below.heap_setCell u p v b hp)
theorem HeldL.new (u : World) (vs : List Value) (t : TypeId) : HeldL (u.alloc (.cells vs.toArray t)) u.heap.size vs := by
 refine ⟨by simp, fun j v hj => ?_, fun j v hj => ?_⟩
 · simp [go_sem, hj]
 · simp [go_sem]
theorem HeldL.new_at (u : World) (b : Nat) (vs : List Value) (t : TypeId) (h : u.heap.size = b) : HeldL (u.alloc (.cells vs.toArray t)) b vs := h ▸ HeldL.new u vs t
theorem HeldL.set (h : HeldL u b vs) (j : Nat) (v w : Value) (hj : vs[j]? = some w) : HeldL (u.setCell ⟨b, j, none⟩ v) b (vs.set j v) := by
 refine ⟨by simp; exact h.lt, fun i x hi => ?_, fun i x hi => ?_⟩
 · rw [List.getElem?_set] at hi
   by_cases e : j = i
   · subst e
     have hl : j < vs.length := (List.getElem?_eq_some_iff.mp hj).1
     simp [hl] at hi
     subst hi
     exact World.cell?_setCell_same _ _ _ (h.cell j w hj)
   · rw [if_neg e] at hi
     exact (World.cell?_setCell_other _ _ _ _ (by simp only [ne_eq, Addr.mk.injEq, not_and]; omega)).trans (h.cell i x hi)
 · rw [World.frozen?_setCell]
   by_cases e : j = i
   · subst e; exact h.froz j w hj
   · rw [List.getElem?_set, if_neg e] at hi
     exact h.froz i x hi
end
end Go.Proofs.YtaboodioabopnaaGreat
namespace Go.Proofs.YtaboodioabopnaaGreat
open Go.RowKit Go.ChangeShapes Go.WideShapes Go.ChangeAt
set_option linter.unusedVariables false
section
variable {H : Type} {enc : TypeId × Value → H} {P : Program} {w : World}
theorem vrow_of (a : Addr) (len m : Nat) (f : Nat → Value) (hl : len ≤ m) (hc : ∀ i, i < m → w.cell? (a.add i) = some (f i)) : VRow w (some a) len ((List.range len).map f) := by
 refine ⟨by simp, fun hn => ?_⟩
 obtain ⟨b, off, spot⟩ := a
 have h0 := hc 0 (by omega)
 have hspot : spot = none := by simpa [Addr.add] using World.cell?_spot h0
 subst hspot
 refine ⟨b, off, rfl, ?_, fun k hk => ?_⟩
 · exact World.block_lt_of_cell? w _ (by simpa [Addr.add] using h0)
 · have hk' := hc k (by omega)
   have e : (⟨b, off, none⟩ : Addr).add k = ⟨b, off + k, none⟩ := by unfold Addr.add; split <;> simp_all
   rw [e] at hk'
   rw [hk']
   simp [hk]
theorem isInts_of {t e : TypeId} {k : IntKind} {a : Option Addr} {len cap : Nat} {d : DataW H} {p : List MemPlace} (ht : P.underlying t = some (.slice e)) (he : P.underlying e = some (.int k)) (hc : P.cellsOf e = 1)
   (h : DataW.Trod enc P w 0 (fun _ => true) true t (.slice a len cap) d p) : ∃ zs, IsInts k w a len cap zs := by
 obtain ⟨fuel, hf⟩ := h
 rcases open_ints ht he hc hf with ⟨hcs, _⟩ | ⟨x, l, c, zs, hcs, _, hl, hm, hz, _, hcell, hwz⟩
 · simp [Value.cells] at hcs
   obtain ⟨rfl, rfl, rfl⟩ := hcs
   exact ⟨[], VRow.empty _ _, Nat.le_refl _, by unfold maxLen; omega, by simp⟩
 · simp [Value.cells] at hcs
   obtain ⟨rfl, rfl, rfl⟩ := hcs
   have hz' : zs.length = cap := by simpa using hz
   refine ⟨zs.take len, ?_, hl, hm, fun s hs => hwz s (List.mem_of_mem_take hs)⟩
   have hv := vrow_of x len cap (fun i => Value.int k (zs.getD i 0)) hl (fun i hi => hcell i (by omega))
   have e : (List.range len).map (fun i => Value.int k (zs.getD i 0)) = (zs.take len).map (.int k) := by
     apply List.ext_getElem
     · simp; omega
     · intro i h1 h2
       have hi : i < zs.length := by simp at h2; omega
       simp [hi]
   rwa [e] at hv
end
end Go.Proofs.YtaboodioabopnaaGreat
namespace Go.Proofs.YtaboodioabopnaaGreat
open Go.RowKit
set_option linter.unusedVariables false
theorem info_int : (Tryz.prog.info? 3).map (fun i => (i.zero, i.size, i.bytes)) = some (some (.int .i64 0), 1, 8) := by kernel_rfl
def marksI (k n : Nat) : List Value := (List.range n).map fun i => Value.int .i64 ((k + i : Nat) : Int)
set_option maxRecDepth 100000 in
set_option maxHeartbeats 1000000 in
theorem toIntS_any (A : Option Addr) (n c : Nat) (xs : List Int) (w : World) (hA : VRow w A n (ints xs)) (hn : n ≤ 1048576) :
   Calls Tryz.prog 93 #[.slice A n c] w (OwnR 3 (ints xs) w) := by
 obtain ⟨i0, hi, hz0, hz1, hz2⟩ := info_parts info_int
 have HL := Lib.hid (show xs.length = n by simpa [ints] using hA.1)
 go_enter Tryz.func93, Tryz.ntmps93
 go_wp2_with (at_make; refine wpList_make_full _ rfl _ _ _ rfl w.heap.size 3 i0 _ 1 Tryz.underlying33 hi hz0 hz1 .i64 .i64 _ _ n rfl rfl rfl rfl (by rw [hz2]; omega) (by unfold maxLen; omega) (Nat.le_refl _) ?_; intro w1 hown hgrow)
 obtain ⟨zs, hzs⟩ : ∃ zs, (madeCells (Value.int .i64 0).cells (n * 1)).toList = zs := ⟨_, rfl⟩
 rw [hzs] at hown
 have HZ := Lib.hid (show zs.length = n by simpa using hown.1)
 have HO := Lib.hid hown
 have HB := Lib.hid ((Below.refl w.heap.size w).grown hgrow (Nat.le_refl _) (by simp))
 clear hown hgrow hzs
 go_wp2
 go_loopw [4] (fun i wr => ∃ j : Nat, j ≤ n ∧ i = .int .i64 j ∧ wr.ownsRow w.heap.size 3 1 (.slice (some ⟨w.heap.size, 0, none⟩) n n) n ((List.range j).map (fun i => Value.int .i64 (xs.getD i 0)) ++ zs.drop j) ∧ Below w.heap.size w wr) (fun i _ => n - (intOf i).toNat)
 case atStart => exact ⟨0, Nat.zero_le _, rfl, by simpa using HO.out, HB.out⟩
 case round =>
   obtain ⟨j, hj, rfl, ho, hb⟩ := hrel
   have HO' := Lib.hid ho
   have HB' := Lib.hid hb
   clear ho hb
   by_cases hlt : j < n
   · obtain ⟨g, o, rfl, hg, hc⟩ := (hA.below HB'.out (Nat.le_refl _)).at_ hlt
     have hx : (ints xs)[j]'(by have := HL.out; simp [ints]; omega) = Value.int .i64 (xs.getD j 0) := by
       have := HL.out
       have hjx : j < xs.length := by omega
       simp [ints, hjx]
     rw [hx] at hc
     have hc2 : wr.cell? ⟨w.heap.size, j, none⟩ = some (((List.range j).map (fun i => Value.int .i64 (xs.getD i 0)) ++ zs.drop j)[j]'(by have := HZ.out; simp; omega)) := by
       rw [HO'.out.cellAt j (by omega)]; exact List.getElem?_eq_getElem _
     have hf : wr.frozen? ⟨w.heap.size, j, none⟩ = false := HO'.out.frozenAt j
     have HS := Lib.hid (HO'.out.stored j (Value.int .i64 (xs.getD j 0)))
     obtain ⟨x, hxx⟩ : ∃ x, xs.getD j 0 = x := ⟨_, rfl⟩
     have HXX := Lib.hid hxx
     rw [hxx] at hc
     clear hxx hx
     go_wp2
     refine ⟨⟨j + 1, by omega, by go_num, ?_, HB'.out.setCell (Nat.le_refl _) _⟩, by simp [intOf]; omega⟩
     have h1 := HS.out.1
     rw [set_step (fun i => Value.int .i64 (xs.getD i 0)) zs j (by have := HZ.out; omega)] at h1
     rw [HXX.out] at h1
     exact h1
   · go_wp2
     go_ret
     obtain rfl : j = n := by omega
     refine ⟨_, rfl, ?_, HB'.out⟩
     have h1 := HO'.out
     rw [List.drop_of_length_le (by have := HZ.out; omega), List.append_nil] at h1
     rw [← HL.out] at h1 ⊢
     rw [range_map_getD] at h1
     exact OwnV.of_own h1
set_option maxRecDepth 100000 in
set_option maxHeartbeats 400000 in
theorem eqIntS_same (A B : Option Addr) (n c d : Nat) (xs : List Int) (w : World) (hA : VRow w A n (ints xs)) (hB : VRow w B n (ints xs)) (hn : n ≤ maxLen) :
   Calls Tryz.prog 43 #[.slice A n c, .slice B n d] w fun e w' => e = .returned (.bool true) ∧ Below w.heap.size w w' := by
 unfold maxLen at hn
 have hl : xs.length = n := by simpa [ints] using hA.1
 have HL := Lib.hid hl
 clear hl
 go_enter Tryz.func43, Tryz.ntmps43
 go_wp2
 go_loopw [5] (fun i wr => ∃ k q : Nat, k ≤ n ∧ i = .int .i64 k ∧ wr = w.drewN q) (fun i _ => n - (intOf i).toNat)
 case atStart => exact ⟨0, 0, Nat.zero_le _, rfl, rfl⟩
 case round =>
   obtain ⟨k, q, hk, rfl, rfl⟩ := hrel
   by_cases hlt : k < n
   · obtain ⟨g, o, rfl, hg, hc⟩ := hA.at_ hlt
     obtain ⟨g', o', rfl, hg', hc'⟩ := hB.at_ hlt
     rw [ints_get] at hc hc'
     go_wp2
     go_quiet (fail)
     go_wp2
     exact ⟨⟨k + 1, q + nq, by omega, by go_num, rfl⟩, by simp [intOf]; omega⟩
   · go_wp2
     go_ret
     exact ⟨rfl, below_drewN (Below.refl _ _) q⟩
end Go.Proofs.YtaboodioabopnaaGreat
namespace Go.Proofs.YtaboodioabopnaaGreat
open Go.RowKit
set_option linter.unusedVariables false
def OwnRB (e : TypeId) (s : Bool) (xs : List Value) (w : World) (en : Ending) (w' : World) : Prop :=
 ∃ v, en = .returned (.agg #[.bool s, v]) ∧ OwnV w' w.heap.size e v xs ∧ Below w.heap.size w w'
theorem OwnV.setBelow {w : World} {base : Nat} {e : TypeId} {v : Value} {xs : List Value} (h : OwnV w base e v xs) {a : Addr} (ha : a.block < base) (u : Value) : OwnV (w.setCell a u) base e v xs := by
 rcases h with ⟨h1, h2⟩ | ⟨g, c, ys, h1, h2, h3, h4, h5⟩
 · exact .inl ⟨h1, h2⟩
 · exact .inr ⟨g, c, ys, h1, h2, h3, ownsRow_setCell_below h4 ha u, h5⟩
theorem ownRB_close {w w2 : World} {e : TypeId} {s : Bool} {v : Value} {xs : List Value} {b base : Nat} (hb : Below w.heap.size w w2) (ho : OwnV w2 base e v xs) (hlt : b < base) (hB : w.heap.size ≤ b) :
   OwnRB e s xs w (.returned (.agg #[.bool s, v])) ((w2.setCell ⟨b, 0, none⟩ (.bool s)).setCell ⟨b, 1, none⟩ v) :=
 ⟨v, rfl, ((ho.setBelow hlt _).setBelow hlt _).based (by omega), (hb.setCell hB _).setCell hB _⟩
structure Held (u : World) (b : Nat) (x y : Value) : Prop where
 lt : b < u.heap.size
 c0 : u.cell? ⟨b, 0, none⟩ = some x
 c1 : u.cell? ⟨b, 1, none⟩ = some y
 f0 : u.frozen? ⟨b, 0, none⟩ = false
 f1 : u.frozen? ⟨b, 1, none⟩ = false
theorem Held.below {u u' : World} {B b : Nat} {x y : Value} (h : Held u b x y) (hb : Below B u u') (hB : b < B) : Held u' b x y :=
 ⟨Nat.lt_of_lt_of_le h.lt hb.size, (hb.cell (p := ⟨b, 0, none⟩) hB).trans h.c0, (hb.cell (p := ⟨b, 1, none⟩) hB).trans h.c1, (hb.frozen (p := ⟨b, 0, none⟩) hB).trans h.f0, (hb.frozen (p := ⟨b, 1, none⟩) hB).trans h.f1⟩
theorem Held.after {u u' : World} {b : Nat} {x y : Value} (h : Held u b x y) (hb : Below u.heap.size u u') : Held u' b x y := h.below hb h.lt
theorem Held.drew {u : World} {b : Nat} {x y : Value} (h : Held u b x y) : Held u.drew b x y := ⟨h.lt, h.c0, h.c1, h.f0, h.f1⟩
theorem Held.new (u : World) (x y : Value) (t : TypeId) : Held (u.alloc (.cells #[x, y] t)) u.heap.size x y :=
 ⟨by simp, by simp [go_sem], by simp [go_sem], by simp [go_sem], by simp [go_sem]⟩
theorem Held.new_at (u : World) (b : Nat) (x y : Value) (t : TypeId) (h : u.heap.size = b) : Held (u.alloc (.cells #[x, y] t)) b x y := h ▸ Held.new u x y t
theorem Held.alloc {u : World} {b : Nat} {x y : Value} (h : Held u b x y) (o : Obj) : Held (u.alloc o) b x y := h.after ((Below.refl _ _).alloc (Nat.le_refl _) o)
theorem Held.grown {u u' : World} {b : Nat} {x y : Value} {row : Option Nat} (h : Held u b x y) (hg : u.grownBy u' row) (hne : some b ≠ row) : Held u' b x y :=
 have e := hg.block b h.lt hne
 ⟨Nat.lt_of_lt_of_le h.lt hg.size, (World.cell?_of_block (w := u) (a := ⟨b, 0, none⟩) e).trans h.c0, (World.cell?_of_block (w := u) (a := ⟨b, 1, none⟩) e).trans h.c1, (World.frozen?_of_block (w := u) (a := ⟨b, 0, none⟩) e).trans h.f0, (World.frozen?_of_block (w := u) (a := ⟨b, 1, none⟩) e).trans h.f1⟩
theorem Held.setOther {u : World} {b : Nat} {x y : Value} (h : Held u b x y) {p : Addr} (hp : b ≠ p.block) (v : Value) : Held (u.setCell p v) b x y :=
 have e := Below.heap_setCell u p v b hp
 ⟨by rw [World.size_setCell]; exact h.lt, (World.cell?_of_block (w := u) (a := ⟨b, 0, none⟩) e).trans h.c0, (World.cell?_of_block (w := u) (a := ⟨b, 1, none⟩) e).trans h.c1, (World.frozen?_of_block (w := u) (a := ⟨b, 0, none⟩) e).trans h.f0, (World.frozen?_of_block (w := u) (a := ⟨b, 1, none⟩) e).trans h.f1⟩
theorem Held.set0 {u : World} {b : Nat} {x y : Value} (h : Held u b x y) (v : Value) : Held (u.setCell ⟨b, 0, none⟩ v) b v y :=
 ⟨by rw [World.size_setCell]; exact h.lt, World.cell?_setCell_same _ _ _ h.c0, (World.cell?_setCell_other _ _ _ _ (by simp)).trans h.c1, by have := h.f0; simpa [go_sem] using this, by have := h.f1; simpa [go_sem] using this⟩
theorem Held.set1 {u : World} {b : Nat} {x y : Value} (h : Held u b x y) (v : Value) : Held (u.setCell ⟨b, 1, none⟩ v) b x v :=
 ⟨by rw [World.size_setCell]; exact h.lt, (World.cell?_setCell_other _ _ _ _ (by simp)).trans h.c0, World.cell?_setCell_same _ _ _ h.c1, by have := h.f0; simpa [go_sem] using this, by have := h.f1; simpa [go_sem] using this⟩
def szOf (k : Int) (n : Nat) : Int := if k < n then -1 else k - n
theorem szOf_neg {k : Int} {n : Nat} (h : k < n) : szOf k n = -1 := if_pos h
theorem szOf_pos {k : Int} {n : Nat} (h : ¬ k < n) : szOf k n = k - n := if_neg h
set_option maxRecDepth 100000 in
theorem szIntS_any (A : Option Addr) (n c : Nat) (k : Int) (w : World) (h0 : 0 ≤ k) (h1 : k ≤ 1048576) (hn : n ≤ 9223372036854775807) :
   Calls Tryz.prog 89 #[.slice A n c, .int .i64 k] w fun e w' => e = .returned (.int .i64 (szOf k n)) ∧ w' = w := by
 by_cases h : k < n
 · rw [szOf_neg h]
   go_enter Tryz.func89, Tryz.ntmps89
   go_wp2
   go_ret
   exact ⟨rfl, rfl⟩
 · rw [szOf_pos h]
   go_enter Tryz.func89, Tryz.ntmps89
   go_wp2
   go_ret
   exact ⟨rfl, rfl⟩
set_option maxRecDepth 100000 in
theorem szBigInt_any (s : Bool) (A : Option Addr) (n c : Nat) (k : Int) (w : World) (h0 : 0 ≤ k) (h1 : k ≤ 1048576) (hn : n ≤ 9223372036854775807) :
   Calls Tryz.prog 88 #[.agg #[.bool s, .slice A n c], .int .i64 k] w fun e w' => e = .returned (.int .i64 (szOf k n)) ∧ Below w.heap.size w w' := by
 go_enter Tryz.func88, Tryz.ntmps88
 go_wp2_with fail
 refine (szIntS_any A n c k _ h0 h1 hn).mono ?_
 rintro e w1 ⟨rfl, rfl⟩
 by_cases h : k < n
 · have hs := szOf_neg h
   have HS := Lib.hid hs
   rw [hs]
   clear hs
   go_wp2
   go_ret
   exact ⟨by rw [HS.out]; rfl, (Below.refl _ _).alloc (Nat.le_refl _) _⟩
 · have hs := szOf_pos h
   have HS := Lib.hid hs
   rw [hs]
   clear hs
   go_wp2
   go_ret
   exact ⟨by rw [HS.out]; rfl, (Below.refl _ _).alloc (Nat.le_refl _) _⟩
set_option maxRecDepth 100000 in
theorem toBigInt_any (s : Bool) (A : Option Addr) (n c : Nat) (xs : List Int) (w : World) (hA : VRow w A n (ints xs)) (hn : n ≤ 1048576) :
   Calls Tryz.prog 92 #[.agg #[.bool s, .slice A n c]] w (OwnRB 3 s (ints xs) w) := by
 have HA := Lib.hid hA
 clear hA
 go_enter Tryz.func92, Tryz.ntmps92
 go_wp2_with fail
 refine (toIntS_any A n c xs _ (HA.out.below (B := w.heap.size) ((((Below.refl w.heap.size w).alloc (Nat.le_refl _) _).alloc (by simp) _).alloc (by simp; omega) _) (Nat.le_refl _)) hn).mono ?_
 rintro e w4 ⟨v, rfl, ho, hb⟩
 have hc0 : w4.cell? ⟨w.heap.size + 1 + 1, 0, none⟩ = some (.bool s) := by rw [hb.cell (by simp)]; simp [go_sem]
 have hc1 : w4.cell? ⟨w.heap.size + 1 + 1, 1, none⟩ = some (.slice none 0 0) := by rw [hb.cell (by simp)]; simp [go_sem]
 have hf0 : w4.frozen? ⟨w.heap.size + 1 + 1, 1, none⟩ = false := by rw [hb.frozen (by simp)]; simp [go_sem]
 have hd0 : w4.cell? ⟨w.heap.size + 1, 0, none⟩ = some (.bool false) := by rw [hb.cell (by simp)]; simp [go_sem]
 have hd1 : w4.cell? ⟨w.heap.size + 1, 1, none⟩ = some (.slice none 0 0) := by rw [hb.cell (by simp)]; simp [go_sem]
 have hf1 : w4.frozen? ⟨w.heap.size + 1, 0, none⟩ = false := by rw [hb.frozen (by simp)]; simp [go_sem]
 have hf2 : w4.frozen? ⟨w.heap.size + 1, 1, none⟩ = false := by rw [hb.frozen (by simp)]; simp [go_sem]
 obtain ⟨A4, c4, rfl⟩ := ho.shape
 have HO := Lib.hid ho
 have HB := Lib.hid hb
 clear ho hb
 go_wp2
 refine bodyPost_ret (v := .agg #[.bool s, .slice A4 (ints xs).length c4]) (by simp [results, Tryz.results92, go_sem, hd0, hd1]) rfl ⟨_, rfl, ?_, ?_⟩
 · exact (((HO.out.setBelow (by simp) _).setBelow (by simp) _).setBelow (by simp) _).based (by simp; omega)
 · exact (((((((Below.refl w.heap.size w).alloc (Nat.le_refl _) _).alloc (by simp) _).alloc (by simp; omega) _).trans (HB.out.mono (by simp; omega))).setCell (by simp; omega) _).setCell (by simp) _).setCell (by simp) _
set_option maxRecDepth 100000 in
theorem eqBigInt_same (s : Bool) (A B : Option Addr) (n c d : Nat) (xs : List Int) (w : World) (hA : VRow w A n (ints xs)) (hB : VRow w B n (ints xs)) (hn : n ≤ maxLen) :
   Calls Tryz.prog 42 #[.agg #[.bool s, .slice A n c], .agg #[.bool s, .slice B n d]] w fun e w' => e = .returned (.bool true) ∧ Below w.heap.size w w' := by
 have HA := Lib.hid hA
 have HB := Lib.hid hB
 clear hA hB
 go_enter Tryz.func42, Tryz.ntmps42
 have HW := Lib.hid (((Below.refl w.heap.size w).alloc (Nat.le_refl _) (.cells #[.bool s, .slice A n c] 35)).alloc (by simp) (.cells #[.bool s, .slice B n d] 35))
 go_wp2_with fail
 refine (eqIntS_same A B n c d xs _ (HA.out.below HW.out (Nat.le_refl _)) (HB.out.below HW.out (Nat.le_refl _)) hn).mono ?_
 rintro e w1 ⟨rfl, hb⟩
 have HB1 := Lib.hid (HW.out.trans (hb.mono (by simp; omega)))
 clear hb
 go_wp2
 go_ret
 exact ⟨rfl, HB1.out⟩
end Go.Proofs.YtaboodioabopnaaGreat
namespace Go.Proofs.YtaboodioabopnaaGreat
open Go.RowKit
set_option linter.unusedVariables false
def OwnRR (e : TypeId) (s : Bool) (xs ys : List Value) (w : World) (en : Ending) (w' : World) : Prop :=
 ∃ v0 v1, en = .returned (.agg #[.bool s, v0, v1]) ∧ OwnV w' w.heap.size e v0 xs ∧ OwnV w' w.heap.size e v1 ys ∧ (v0.ownBlock = none ∨ v0.ownBlock ≠ v1.ownBlock) ∧ (v1.ownBlock = none ∨ v1.ownBlock ≠ v0.ownBlock) ∧ Below w.heap.size w w'
theorem ownRR_close {w w2 : World} {e : TypeId} {s : Bool} {v r : Value} {xs ys : List Value} {b b1 b2 : Nat} (hb : Below w.heap.size w w2) (h1 : OwnV w2 b1 e v xs) (h2 : OwnV w2 b2 e r ys) (l1 : b < b1) (l2 : b < b2) (hB : w.heap.size ≤ b) (a1 : v.ownBlock = none ∨ v.ownBlock ≠ r.ownBlock) (a2 : r.ownBlock = none ∨ r.ownBlock ≠ v.ownBlock) :
   OwnRR e s xs ys w (.returned (.agg #[.bool s, v, r])) (((w2.setCell ⟨b, 0, none⟩ (.bool s)).setCell ⟨b, 1, none⟩ v).setCell ⟨b, 2, none⟩ r) :=
 ⟨v, r, rfl, (((h1.setBelow l1 _).setBelow l1 _).setBelow l1 _).based (by omega), (((h2.setBelow l2 _).setBelow l2 _).setBelow l2 _).based (by omega), a1, a2, ((hb.setCell hB _).setCell hB _).setCell hB _⟩
theorem szOf_two {k : Int} {n m : Nat} (h : ¬ k < n) : szOf (k - n) m = szOf k (n + m) := by
 unfold szOf
 by_cases h2 : k - n < m
 · rw [if_pos h2, if_pos (by omega)]
 · rw [if_neg h2, if_neg (by omega)]; omega
theorem szOf_left {k : Int} {n : Nat} (m : Nat) (h : k < n) : szOf k (n + m) = -1 := if_pos (by omega)
set_option maxRecDepth 100000 in
set_option maxHeartbeats 4000000 in
theorem szRat_any (s : Bool) (A : Option Addr) (n c : Nat) (B : Option Addr) (m d : Nat) (k : Int) (w : World) (h0 : 0 ≤ k) (h1 : k ≤ 1048576) (hn : n ≤ 9223372036854775807) (hm : m ≤ 9223372036854775807) :
   Calls Tryz.prog 50 #[.agg #[.bool s, .slice A n c, .slice B m d], .int .i64 k] w fun e w' => e = .returned (.int .i64 (szOf k (n + m))) ∧ Below w.heap.size w w' := by
 go_enter Tryz.func50, Tryz.ntmps50
 have HB_0 := Lib.hid ((Below.refl w.heap.size w).alloc (Nat.le_refl _) (.cells #[.bool s, .slice A n c, .slice B m d] 54))
 have K_a_0 := Lib.hid (HeldL.new_at w (w.heap.size) [.bool s, .slice A n c, .slice B m d] 54 (by first | rfl | simp))
 go_wp2_with fail
 refine (szBigInt_any s A n c k _ h0 h1 hn).mono ?_
 rintro e w1 ⟨rfl, hb⟩
 have K_a_1 := Lib.hid (K_a_0.out.after hb)
 have HB_1 := Lib.hid (HB_0.out.trans (hb.mono HB_0.out.size))
 clear hb
 by_cases h : k < n
 · have HS := Lib.hid (szOf_left m h)
   rw [szOf_neg h]
   go_wp2
   go_ret
   exact ⟨by rw [HS.out]; rfl, HB_1.out⟩
 · have HS := Lib.hid (szOf_two (m := m) h)
   rw [szOf_pos h]
   obtain ⟨q, hq⟩ : ∃ q : Int, k - (n : Int) = q := ⟨_, rfl⟩
   have hq0 : 0 ≤ q ∧ q ≤ 1048576 := by omega
   have hq1 : ¬ q < 0 := by omega
   rw [hq] at HS ⊢
   clear hq h
   have hk_a_0_1 := K_a_1.out.cell 0 _ rfl
   have hk_a_1_1 := K_a_1.out.cell 1 _ rfl
   have hk_a_2_1 := K_a_1.out.cell 2 _ rfl
   go_wp2_with fail
   refine (szIntS_any B m d q _ hq0.1 hq0.2 hm).mono ?_
   rintro e w2 ⟨rfl, rfl⟩
   clear hk_a_0_1
   clear hk_a_1_1
   clear hk_a_2_1
   rw [HS.out]
   by_cases h : k < (n + m : Nat)
   · have HE := Lib.hid (szOf_neg h)
     rw [HE.out]
     clear h
     go_wp2
     go_ret
     exact ⟨by rw [HE.out]; rfl, HB_1.out⟩
   · have HE := Lib.hid (szOf_pos h)
     rw [HE.out]
     obtain ⟨r, hr⟩ : ∃ r : Int, k - ((n + m : Nat) : Int) = r := ⟨_, rfl⟩
     have hr0 : 0 ≤ r := by omega
     have hr1 : ¬ r < 0 := by omega
     have HR := Lib.hid hr
     rw [hr]
     clear hr h
     go_wp2
     go_ret
     exact ⟨by rw [HE.out, HR.out]; rfl, HB_1.out⟩
set_option maxRecDepth 100000 in
set_option maxHeartbeats 4000000 in
theorem toRat_any (s : Bool) (A : Option Addr) (n c : Nat) (xs : List Int) (B : Option Addr) (m d : Nat) (ys : List Int) (w : World) (hA : VRow w A n (ints xs)) (hB : VRow w B m (ints ys)) (hn : n ≤ 1048576) (hm : m ≤ 1048576) :
   Calls Tryz.prog 55 #[.agg #[.bool s, .slice A n c, .slice B m d]] w (OwnRR 3 s (ints xs) (ints ys) w) := by
 have HA := Lib.hid hA
 have HB := Lib.hid hB
 clear hA hB
 go_enter Tryz.func55, Tryz.ntmps55
 have HB_0 := Lib.hid ((((Below.refl w.heap.size w).alloc (Nat.le_refl _) (.cells #[.bool s, .slice A n c, .slice B m d] 54)).alloc (by simp) (.cells #[.bool false, .slice none 0 0, .slice none 0 0] 37)).alloc (by simp; omega) (.cells #[.bool false, .slice none 0 0, .slice none 0 0] 37))
 have K_a_0 := Lib.hid (((HeldL.new_at w (w.heap.size) [.bool s, .slice A n c, .slice B m d] 54 (by first | rfl | simp)).alloc (.cells #[.bool false, .slice none 0 0, .slice none 0 0] 37)).alloc (.cells #[.bool false, .slice none 0 0, .slice none 0 0] 37))
 have K_res_0 := Lib.hid ((HeldL.new_at (w.alloc (.cells #[.bool s, .slice A n c, .slice B m d] 54)) (w.heap.size + 1) [.bool false, .slice none 0 0, .slice none 0 0] 37 (by first | rfl | simp)).alloc (.cells #[.bool false, .slice none 0 0, .slice none 0 0] 37))
 have K_out_0 := Lib.hid (HeldL.new_at ((w.alloc (.cells #[.bool s, .slice A n c, .slice B m d] 54)).alloc (.cells #[.bool false, .slice none 0 0, .slice none 0 0] 37)) (w.heap.size + 1 + 1) [.bool false, .slice none 0 0, .slice none 0 0] 37 (by first | rfl | simp))
 have hne_a_res : w.heap.size ≠ w.heap.size + 1 := by omega
 have hne_a_out : w.heap.size ≠ w.heap.size + 1 + 1 := by omega
 have hne_res_a : w.heap.size + 1 ≠ w.heap.size := by omega
 have hne_res_out : w.heap.size + 1 ≠ w.heap.size + 1 + 1 := by omega
 have hne_out_a : w.heap.size + 1 + 1 ≠ w.heap.size := by omega
 have hne_out_res : w.heap.size + 1 + 1 ≠ w.heap.size + 1 := by omega
 go_wp2_with fail
 refine (toBigInt_any s A n c xs _ (HA.out.below HB_0.out (Nat.le_refl _)) hn).mono ?_
 rintro e w1 ⟨v0, rfl, ho, hb⟩
 obtain ⟨A1, c1, rfl⟩ := ho.shape
 have HO0 := Lib.hid ho
 clear ho
 have K_a_1 := Lib.hid (K_a_0.out.after hb)
 have K_res_1 := Lib.hid (K_res_0.out.after hb)
 have K_out_1 := Lib.hid (K_out_0.out.after hb)
 have HB_1 := Lib.hid (HB_0.out.trans (hb.mono HB_0.out.size))
 clear hb
 have hk_a_0_1 := K_a_1.out.cell 0 _ rfl
 have hk_a_1_1 := K_a_1.out.cell 1 _ rfl
 have hk_a_2_1 := K_a_1.out.cell 2 _ rfl
 have hk_out_0_1 := K_out_1.out.cell 0 _ rfl
 have hk_out_0_1f := K_out_1.out.froz 0 _ rfl
 have hk_out_1_1 := K_out_1.out.cell 1 _ rfl
 have hk_out_1_1f := K_out_1.out.froz 1 _ rfl
 have hk_out_2_1 := K_out_1.out.cell 2 _ rfl
 have hk_out_2_1f := K_out_1.out.froz 2 _ rfl
 go_wp2_with fail
 clear hk_a_0_1
 clear hk_a_1_1
 clear hk_a_2_1
 clear hk_out_0_1
 clear hk_out_0_1f
 clear hk_out_1_1
 clear hk_out_1_1f
 clear hk_out_2_1
 clear hk_out_2_1f
 have K_a_2 := Lib.hid ((K_a_1.out.setOther (p := ⟨w.heap.size + 1 + 1, 0, none⟩) hne_a_out (.bool s)).setOther (p := ⟨w.heap.size + 1 + 1, 1, none⟩) hne_a_out (.slice A1 (ints xs).length c1))
 have K_res_2 := Lib.hid ((K_res_1.out.setOther (p := ⟨w.heap.size + 1 + 1, 0, none⟩) hne_res_out (.bool s)).setOther (p := ⟨w.heap.size + 1 + 1, 1, none⟩) hne_res_out (.slice A1 (ints xs).length c1))
 have K_out_2 := Lib.hid ((K_out_1.out.set 0 (.bool s) _ rfl).set 1 (.slice A1 (ints xs).length c1) _ rfl)
 have H_O0_2 := Lib.hid (OwnV.setBelow (OwnV.setBelow HO0.out (a := ⟨w.heap.size + 1 + 1, 0, none⟩) K_out_0.out.lt (.bool s)) (a := ⟨w.heap.size + 1 + 1, 1, none⟩) K_out_0.out.lt (.slice A1 (ints xs).length c1))
 have HB_2 := Lib.hid ((HB_1.out.setCell (p := ⟨w.heap.size + 1 + 1, 0, none⟩) (by simp; omega) (.bool s)).setCell (p := ⟨w.heap.size + 1 + 1, 1, none⟩) (by simp; omega) (.slice A1 (ints xs).length c1))
 obtain ⟨w2, hw2⟩ : ∃ u, ((w1.setCell ⟨w.heap.size + 1 + 1, 0, none⟩ (.bool s)).setCell ⟨w.heap.size + 1 + 1, 1, none⟩ (.slice A1 (ints xs).length c1)) = u := ⟨_, rfl⟩
 rw [hw2] at K_a_2 K_res_2 K_out_2 H_O0_2 HB_2 ⊢
 clear hw2
 refine (toIntS_any B m d ys _ (HB.out.below HB_2.out (Nat.le_refl _)) hm).mono ?_
 rintro e w3 ⟨v1, rfl, ho, hb⟩
 obtain ⟨A2, c2, rfl⟩ := ho.shape
 have AP0 := Lib.hid (OwnV.apart H_O0_2.out ho (Nat.le_refl _))
 have AP1 := Lib.hid (OwnV.apart' ho H_O0_2.out (Nat.le_refl _))
 have HO1 := Lib.hid ho
 clear ho
 have K_a_3 := Lib.hid (K_a_2.out.after hb)
 have K_res_3 := Lib.hid (K_res_2.out.after hb)
 have K_out_3 := Lib.hid (K_out_2.out.after hb)
 have H_O0_3 := Lib.hid (OwnV.below (w := w2) H_O0_2.out hb)
 have HB_3 := Lib.hid (HB_2.out.trans (hb.mono HB_2.out.size))
 clear hb
 have hk_out_0_3 := K_out_3.out.cell 0 _ rfl
 have hk_out_0_3f := K_out_3.out.froz 0 _ rfl
 have hk_out_1_3 := K_out_3.out.cell 1 _ rfl
 have hk_out_1_3f := K_out_3.out.froz 1 _ rfl
 have hk_out_2_3 := K_out_3.out.cell 2 _ rfl
 have hk_out_2_3f := K_out_3.out.froz 2 _ rfl
 have hk_res_0_3 := K_res_3.out.cell 0 _ rfl
 have hk_res_0_3f := K_res_3.out.froz 0 _ rfl
 have hk_res_1_3 := K_res_3.out.cell 1 _ rfl
 have hk_res_1_3f := K_res_3.out.froz 1 _ rfl
 have hk_res_2_3 := K_res_3.out.cell 2 _ rfl
 have hk_res_2_3f := K_res_3.out.froz 2 _ rfl
 go_wp2
 have hr0 := K_res_3.out.cell 0 _ rfl
 have hr1 := K_res_3.out.cell 1 _ rfl
 have hr2 := K_res_3.out.cell 2 _ rfl
 refine bodyPost_ret (v := .agg #[.bool s, .slice A1 (ints xs).length c1, .slice A2 (ints ys).length c2]) (by simp [results, Tryz.results55, go_sem, hr0, hr1, hr2]) rfl ?_
 exact ownRR_close (HB_3.out.setCell (by simp; omega) _) (H_O0_3.out.setBelow K_out_0.out.lt _) (HO1.out.setBelow K_out_2.out.lt _) K_res_0.out.lt K_res_2.out.lt (by omega) AP0.out AP1.out
set_option maxRecDepth 100000 in
set_option maxHeartbeats 4000000 in
theorem eqRat_same (s : Bool) (A A' : Option Addr) (n c c' : Nat) (xs : List Int) (B B' : Option Addr) (m d d' : Nat) (ys : List Int) (w : World) (hA : VRow w A n (ints xs)) (hA' : VRow w A' n (ints xs)) (hB : VRow w B m (ints ys)) (hB' : VRow w B' m (ints ys)) (hn : n ≤ maxLen) (hm : m ≤ maxLen) :
   Calls Tryz.prog 16 #[.agg #[.bool s, .slice A n c, .slice B m d], .agg #[.bool s, .slice A' n c', .slice B' m d']] w fun e w' => e = .returned (.bool true) ∧ Below w.heap.size w w' := by
 have HA := Lib.hid hA
 have HA' := Lib.hid hA'
 have HB := Lib.hid hB
 have HB' := Lib.hid hB'
 clear hA hA' hB hB'
 go_enter Tryz.func16, Tryz.ntmps16
 have HB_0 := Lib.hid (((Below.refl w.heap.size w).alloc (Nat.le_refl _) (.cells #[.bool s, .slice A n c, .slice B m d] 37)).alloc (by simp) (.cells #[.bool s, .slice A' n c', .slice B' m d'] 37))
 have K_a_0 := Lib.hid ((HeldL.new_at w (w.heap.size) [.bool s, .slice A n c, .slice B m d] 37 (by first | rfl | simp)).alloc (.cells #[.bool s, .slice A' n c', .slice B' m d'] 37))
 have K_b_0 := Lib.hid (HeldL.new_at (w.alloc (.cells #[.bool s, .slice A n c, .slice B m d] 37)) (w.heap.size + 1) [.bool s, .slice A' n c', .slice B' m d'] 37 (by first | rfl | simp))
 have hne_a_b : w.heap.size ≠ w.heap.size + 1 := by omega
 have hne_b_a : w.heap.size + 1 ≠ w.heap.size := by omega
 go_wp2_with fail
 refine (eqBigInt_same s A A' n c c' xs _ (HA.out.below HB_0.out (Nat.le_refl _)) (HA'.out.below HB_0.out (Nat.le_refl _)) hn).mono ?_
 rintro e w1 ⟨rfl, hb⟩
 have K_a_1 := Lib.hid (K_a_0.out.after hb)
 have K_b_1 := Lib.hid (K_b_0.out.after hb)
 have HB_1 := Lib.hid (HB_0.out.trans (hb.mono HB_0.out.size))
 clear hb
 have hk_a_0_1 := K_a_1.out.cell 0 _ rfl
 have hk_a_1_1 := K_a_1.out.cell 1 _ rfl
 have hk_a_2_1 := K_a_1.out.cell 2 _ rfl
 have hk_b_0_1 := K_b_1.out.cell 0 _ rfl
 have hk_b_1_1 := K_b_1.out.cell 1 _ rfl
 have hk_b_2_1 := K_b_1.out.cell 2 _ rfl
 go_wp2_with fail
 refine (eqIntS_same B B' m d d' ys _ (HB.out.below HB_1.out (Nat.le_refl _)) (HB'.out.below HB_1.out (Nat.le_refl _)) hm).mono ?_
 rintro e w2 ⟨rfl, hb⟩
 have K_a_2 := Lib.hid (K_a_1.out.after hb)
 have K_b_2 := Lib.hid (K_b_1.out.after hb)
 have HB_2 := Lib.hid (HB_1.out.trans (hb.mono HB_1.out.size))
 clear hb
 clear hk_a_0_1
 clear hk_a_1_1
 clear hk_a_2_1
 clear hk_b_0_1
 clear hk_b_1_1
 clear hk_b_2_1
 go_wp2
 go_ret
 exact ⟨rfl, HB_2.out⟩
end Go.Proofs.YtaboodioabopnaaGreat
namespace Go.Proofs.YtaboodioabopnaaGreat
open Go.ChangeShapes Go.WideShapes Go.ChangeAt Go.RowKit Go.Joins Go.Deep
set_option linter.unusedVariables false
section
variable {H : Type} {enc : TypeId × Value → H} {P : Program} {w : World}
end
theorem OwnV.bn_new {w : World} {base : Nat} {e : TypeId} {v : Value} {xs : List Value} (h : OwnV w base e v xs) : some w.heap.size ≠ v.ownBlock := by
 intro he
 have := (h.lt _ he.symm).2
 omega
theorem OwnV.setOther {w : World} {base : Nat} {e : TypeId} {v : Value} {xs : List Value} (h : OwnV w base e v xs) {a : Addr} (hne : some a.block ≠ v.ownBlock) (u : Value) : OwnV (w.setCell a u) base e v xs := by
 refine h.kept (row := some a.block) ⟨rfl, rfl, rfl, by simp, fun k hk hn => Below.heap_setCell w a u k (fun e => hn (by rw [e]))⟩ (.inr fun e => hne e.symm)
end Go.Proofs.YtaboodioabopnaaGreat
namespace Go.Proofs.YtaboodioabopnaaGreat
open Go.ChangeShapes Go.WideShapes Go.ChangeAt Go.RowKit Go.Joins Go.Deep
set_option linter.unusedVariables false
section
variable {H : Type} {enc : TypeId × Value → H} {P : Program} {w : World}
end
end Go.Proofs.YtaboodioabopnaaGreat
namespace Go.Proofs.YtaboodioabopnaaGreat.Dv
structure Trial (b u d1 d0 v q r : Nat) : Prop where
 sum : q * d1 + r = u
 ge : (u * b + v) / (d1 * b + d0) ≤ q
theorem trial_start (b u d1 d0 v : Nat) (hd : 0 < d1) (hv : v < b) : Trial b u d1 d0 v (u / d1) (u - u / d1 * d1) := by
 refine ⟨by have := Nat.div_mul_le_self u d1; omega, ?_⟩
 rw [Nat.le_div_iff_mul_le hd]
 have h1 : (u * b + v) / (d1 * b + d0) * (d1 * b + d0) ≤ u * b + v := Nat.div_mul_le_self _ _
 generalize (u * b + v) / (d1 * b + d0) = Q at *
 have h2 : Q * d1 * b ≤ u * b + v := by
   have : Q * (d1 * b + d0) = Q * d1 * b + Q * d0 := by rw [Nat.mul_add, Nat.mul_assoc]
   omega
 rcases Nat.lt_or_ge u (Q * d1) with h3 | h3
 · have : (u + 1) * b ≤ Q * d1 * b := Nat.mul_le_mul_right b h3
   rw [Nat.add_mul] at this
   omega
 · exact h3
theorem trial_ident {b u d1 d0 v q r : Nat} (h : q * d1 + r = u) : q * (d1 * b + d0) + (b * r + v) = u * b + v + q * d0 := by
 subst h
 rw [Nat.mul_add, Nat.add_mul, Nat.mul_assoc, Nat.mul_comm b r]
 omega
theorem trial_done {b u d1 d0 v q r : Nat} (h : Trial b u d1 d0 v q r) (hd : 0 < d1 * b + d0) (ht : q * d0 ≤ b * r + v) : q = (u * b + v) / (d1 * b + d0) := by
 apply Nat.le_antisymm _ h.ge
 rw [Nat.le_div_iff_mul_le hd]
 have := trial_ident (b := b) (d0 := d0) (v := v) h.sum
 omega
theorem trial_more {b u d1 d0 v q r : Nat} (h : Trial b u d1 d0 v q r) (hd : 0 < d1 * b + d0) (hu : u < d1 * b + d0) (hv : v < b) (ht : b ≤ q ∨ b * r + v < q * d0) : (u * b + v) / (d1 * b + d0) < q := by
 rw [Nat.div_lt_iff_lt_mul hd]
 rcases ht with ht | ht
 · have h1 : b * (d1 * b + d0) ≤ q * (d1 * b + d0) := Nat.mul_le_mul_right _ ht
   have h2 : (u + 1) * b ≤ (d1 * b + d0) * b := Nat.mul_le_mul_right _ hu
   rw [Nat.add_mul] at h2
   rw [Nat.mul_comm b (d1 * b + d0)] at h1
   omega
 · have := trial_ident (b := b) (d0 := d0) (v := v) h.sum
   omega
theorem trial_step {b u d1 d0 v q r : Nat} (h : Trial b u d1 d0 v q r) (hlt : (u * b + v) / (d1 * b + d0) < q) : Trial b u d1 d0 v (q - 1) (r + d1) := by
 refine ⟨?_, Nat.le_sub_one_of_lt hlt⟩
 have := h.sum
 have hq : 0 < q := Nat.lt_of_le_of_lt (Nat.zero_le _) hlt
 clear hlt
 obtain ⟨p, rfl⟩ : ∃ p, q = p + 1 := ⟨q - 1, by omega⟩
 rw [Nat.add_mul] at this
 simp
 omega
theorem trial_break {b u d1 d0 v q r : Nat} (h : Trial b u d1 d0 v q r) (hd : 0 < d1 * b + d0) (hq : q ≤ b) (hd0 : d0 < b) (hr : b ≤ r) : q = (u * b + v) / (d1 * b + d0) := by
 refine trial_done h hd ?_
 have h1 : q * d0 ≤ b * b := Nat.mul_le_mul hq (by omega)
 have h2 : b * b ≤ b * r := Nat.mul_le_mul_left b hr
 omega
theorem trial_first {b u d1 d0 : Nat} (hd : 0 < d1) (hu : u < d1 * b + d0) (hd0 : d0 < b) (hb : b ≤ 2 * d1) : u / d1 ≤ b + 1 := by
 have h : u / d1 < b + 2 := by
   rw [Nat.div_lt_iff_lt_mul hd, Nat.add_mul, Nat.mul_comm b d1]
   omega
 omega
theorem quo_lt (b u D v : Nat) (hD : 0 < D) (hu : u < D) (hv : v < b) : (u * b + v) / D < b := by
 rw [Nat.div_lt_iff_lt_mul hD]
 have h : (u + 1) * b ≤ D * b := Nat.mul_le_mul_right _ hu
 rw [Nat.add_mul] at h
 rw [Nat.mul_comm b D]
 omega
theorem two_steps (b u v1 v0 D : Nat) (hD : 0 < D) : ((u * b + v1) * b + v0) / D = (u * b + v1) / D * b + ((u * b + v1) % D * b + v0) / D := by
 have h := Nat.div_add_mod (u * b + v1) D
 generalize (u * b + v1) / D = q at *
 generalize (u * b + v1) % D = r at *
 rw [← h]
 have e : (D * q + r) * b + v0 = r * b + v0 + D * (q * b) := by rw [Nat.add_mul, Nat.mul_assoc]; omega
 rw [e, Nat.add_mul_div_left _ _ hD]
 omega
theorem two_mod (b u v1 v0 D : Nat) : ((u * b + v1) * b + v0) % D = ((u * b + v1) % D * b + v0) % D := by
 have h := Nat.div_add_mod (u * b + v1) D
 generalize (u * b + v1) / D = q at *
 generalize (u * b + v1) % D = r at *
 rw [← h]
 have e : (D * q + r) * b + v0 = r * b + v0 + D * (q * b) := by rw [Nat.add_mul, Nat.mul_assoc]; omega
 rw [e, Nat.add_mul_mod_self_left]
theorem shift_mod (x y p : Nat) (hp : 0 < p) : x % y = x * p % (y * p) / p := by
 rw [Nat.mul_mod_mul_right, Nat.mul_div_cancel _ hp]
theorem shift_div (x y p : Nat) (hp : 0 < p) : (x * p) / (y * p) = x / y := Nat.mul_div_mul_right x y hp
end Go.Proofs.YtaboodioabopnaaGreat.Dv
