/- Numbers of base 1000000000 as lists of limbs, the low limb first: value, canonical limbs, comparison, and the sums behind the loops that add and subtract a multiple. Conditions: none. -/
namespace Go.Proofs.Ytdilbhkdkppodaa.Nt

/-- The value of a row of limbs. -/
def val : List Nat → Nat
  | [] => 0
  | d :: ds => d + 1000000000 * val ds
/-- The limbs of a number, without zeros at the high end. -/
def dig (n : Nat) : List Nat := if h : n = 0 then [] else n % 1000000000 :: dig (n / 1000000000)
termination_by n
decreasing_by omega
/-- Every limb is below the base. -/
def Digs (ds : List Nat) : Prop := ∀ d ∈ ds, d < 1000000000
/-- Limbs of a number: below the base, the last one not zero. -/
def Canon (ds : List Nat) : Prop := Digs ds ∧ ds.getLast? ≠ some 0
/-- The sum of the first i places of g. -/
def vs (g : Nat → Nat) : Nat → Nat
  | 0 => 0
  | i + 1 => vs g i + 1000000000 ^ i * g i

theorem dig_zero : dig 0 = [] := by rw [dig, dif_pos rfl]
theorem dig_pos {n : Nat} (h : 0 < n) : dig n = n % 1000000000 :: dig (n / 1000000000) := by rw [dig, dif_neg (by omega)]
theorem val_append (a b : List Nat) : val (a ++ b) = val a + 1000000000 ^ a.length * val b := by
  induction a with
  | nil => simp [val]
  | cons d ds ih => simp only [List.cons_append, val, ih, List.length_cons, Nat.pow_succ]; grind
theorem val_dig (n : Nat) : val (dig n) = n := by
  induction n using Nat.strongRecOn with
  | _ n ih =>
    by_cases h : n = 0
    · subst h; rw [dig_zero]; rfl
    · rw [dig_pos (by omega), val, ih _ (by omega)]; omega
theorem dig_digs (n : Nat) : Digs (dig n) := by
  induction n using Nat.strongRecOn with
  | _ n ih =>
    by_cases h : n = 0
    · subst h; rw [dig_zero]; intro d hd; simp at hd
    · rw [dig_pos (by omega)]
      intro d hd
      rcases List.mem_cons.mp hd with rfl | hd
      · omega
      · exact ih _ (by omega) d hd
theorem dig_ne {n : Nat} (h : 0 < n) : dig n ≠ [] := by rw [dig_pos h]; simp
theorem dig_nil_iff {n : Nat} : dig n = [] ↔ n = 0 := by
  constructor
  · intro h; have := val_dig n; rw [h] at this; simpa [val] using this.symm
  · rintro rfl; exact dig_zero
theorem dig_can (n : Nat) : Canon (dig n) := by
  refine ⟨dig_digs n, ?_⟩
  induction n using Nat.strongRecOn with
  | _ n ih =>
    by_cases h : n = 0
    · subst h; rw [dig_zero]; simp
    · rw [dig_pos (by omega), List.getLast?_cons]
      by_cases h2 : n / 1000000000 = 0
      · rw [h2, dig_zero]; simp; omega
      · have := ih _ (by omega : n / 1000000000 < n)
        cases hq : (dig (n / 1000000000)).getLast? with
        | none => rw [List.getLast?_eq_none_iff] at hq; exact absurd hq (dig_ne (by omega))
        | some x => rw [hq] at this; simpa using this
theorem Digs.tail {d : Nat} {ds : List Nat} (h : Digs (d :: ds)) : Digs ds := fun x hx => h x (List.mem_cons_of_mem _ hx)
theorem Digs.head {d : Nat} {ds : List Nat} (h : Digs (d :: ds)) : d < 1000000000 := h d List.mem_cons_self
theorem Digs.nil : Digs [] := fun x hx => by simp at hx
theorem Digs.app {a b : List Nat} (ha : Digs a) (hb : Digs b) : Digs (a ++ b) := fun x hx => (List.mem_append.mp hx).elim (ha x) (hb x)
theorem Digs.take {a : List Nat} (ha : Digs a) (k : Nat) : Digs (a.take k) := fun x hx => ha x (List.mem_of_mem_take hx)
theorem Digs.drop {a : List Nat} (ha : Digs a) (k : Nat) : Digs (a.drop k) := fun x hx => ha x (List.mem_of_mem_drop hx)
theorem Digs.get {a : List Nat} (ha : Digs a) {k : Nat} (hk : k < a.length) : a[k] < 1000000000 := ha _ (List.getElem_mem hk)
theorem Digs.getD {a : List Nat} (ha : Digs a) (k : Nat) : a.getD k 0 < 1000000000 := by
  by_cases hk : k < a.length
  · simpa [hk] using ha.get hk
  · simp [List.getD, List.getElem?_eq_none (by omega : a.length ≤ k)]
theorem digs_replicate (n : Nat) : Digs (List.replicate n 0) := fun x hx => by rw [(List.mem_replicate.mp hx).2]; omega
theorem Canon.nil : Canon [] := ⟨Digs.nil, by simp⟩
theorem Canon.tail {d : Nat} {ds : List Nat} (h : Canon (d :: ds)) : Canon ds := by
  refine ⟨h.1.tail, fun e => h.2 ?_⟩
  rw [List.getLast?_cons, e]; rfl
theorem can_val_zero {ds : List Nat} (h : Canon ds) (h0 : val ds = 0) : ds = [] := by
  induction ds with
  | nil => rfl
  | cons d ds ih =>
    exfalso
    simp only [val] at h0
    have e := ih h.tail (by omega)
    subst e
    apply h.2
    simp; omega
theorem dig_of_can {ds : List Nat} (h : Canon ds) : dig (val ds) = ds := by
  induction ds with
  | nil => simp [val, dig_zero]
  | cons d ds ih =>
    have hd := h.1.head
    have hp : 0 < val (d :: ds) := by
      rcases Nat.eq_zero_or_pos (val (d :: ds)) with h0 | h0
      · exact absurd (can_val_zero h h0) (by simp)
      · exact h0
    rw [dig_pos hp, val]
    have e1 : (d + 1000000000 * val ds) % 1000000000 = d := by omega
    have e2 : (d + 1000000000 * val ds) / 1000000000 = val ds := by omega
    rw [e1, e2, ih h.tail]
theorem can_ext {a b : List Nat} (ha : Canon a) (hb : Canon b) (h : val a = val b) : a = b := by
  rw [← dig_of_can ha, ← dig_of_can hb, h]
theorem val_lt {ds : List Nat} (h : Digs ds) : val ds < 1000000000 ^ ds.length := by
  induction ds with
  | nil => simp [val]
  | cons d ds ih =>
    have := ih h.tail
    have := h.head
    simp only [val, List.length_cons, Nat.pow_succ]
    omega
theorem pow_pos (k : Nat) : 0 < 1000000000 ^ k := Nat.pow_pos (by decide)
theorem can_pos {ds : List Nat} (h : Canon ds) (hl : 0 < ds.length) : 1000000000 ^ (ds.length - 1) ≤ val ds := by
  induction ds with
  | nil => simp at hl
  | cons d ds ih =>
    cases ds with
    | nil =>
      have := h.2
      simp at this
      simp [val]; omega
    | cons e es =>
      have := ih h.tail (by simp)
      simp only [List.length_cons, Nat.add_sub_cancel, val, Nat.pow_succ] at this ⊢
      omega
theorem can_zero_iff {ds : List Nat} (h : Canon ds) : val ds = 0 ↔ ds = [] := ⟨can_val_zero h, fun e => by subst e; rfl⟩
theorem can_len_le {ds : List Nat} (h : Canon ds) {k : Nat} (hk : val ds < 1000000000 ^ k) : ds.length ≤ k := by
  rcases Nat.eq_zero_or_pos ds.length with h0 | h0
  · omega
  · have h1 := can_pos h h0
    have h2 : 1000000000 ^ (ds.length - 1) < 1000000000 ^ k := by omega
    have h3 := (Nat.pow_lt_pow_iff_right (by decide : 1 < 1000000000)).mp h2
    omega
theorem dig_len {n k : Nat} (h : n < 1000000000 ^ k) : (dig n).length ≤ k := can_len_le (dig_can n) (by rw [val_dig]; exact h)
theorem dig_len_iff {n k : Nat} : (dig n).length ≤ k ↔ n < 1000000000 ^ k := by
  refine ⟨fun h => ?_, dig_len⟩
  have h1 := val_lt (dig_digs n)
  rw [val_dig] at h1
  exact Nat.lt_of_lt_of_le h1 (Nat.pow_le_pow_right (by decide) h)
theorem val_take_drop (ds : List Nat) (k : Nat) (hk : k ≤ ds.length) : val ds = val (ds.take k) + 1000000000 ^ k * val (ds.drop k) := by
  have h := val_append (ds.take k) (ds.drop k)
  rw [List.take_append_drop, List.length_take, Nat.min_eq_left hk] at h
  exact h
theorem val_zeros (k : Nat) : val (List.replicate k 0) = 0 := by
  induction k with
  | zero => rfl
  | succ k ih => simp [List.replicate_succ, val, ih]
theorem val_drop_succ (ds : List Nat) (k : Nat) (hk : k < ds.length) : val (ds.drop k) = ds[k] + 1000000000 * val (ds.drop (k + 1)) := by
  rw [List.drop_eq_getElem_cons hk]; rfl
theorem val_take_succ (ds : List Nat) (k : Nat) (hk : k < ds.length) : val (ds.take (k + 1)) = val (ds.take k) + 1000000000 ^ k * ds[k] := by
  rw [List.take_add_one, List.getElem?_eq_getElem hk, Option.toList_some, val_append, List.length_take, Nat.min_eq_left (by omega)]
  simp [val]
theorem vs_range (g : Nat → Nat) (i : Nat) : val ((List.range i).map g) = vs g i := by
  induction i with
  | zero => rfl
  | succ i ih => rw [List.range_succ, List.map_append, val_append, ih]; simp [vs, val]
theorem vs_take (ds : List Nat) (i : Nat) : vs (fun j => ds.getD j 0) i = val (ds.take i) := by
  induction i with
  | zero => simp [vs, val]
  | succ i ih =>
    by_cases h : i < ds.length
    · rw [val_take_succ _ _ h, vs, ih]; simp [h]
    · rw [vs, ih, List.take_of_length_le (by omega : ds.length ≤ i), List.take_of_length_le (by omega : ds.length ≤ i + 1)]
      simp [List.getElem?_eq_none (by omega : ds.length ≤ i)]
theorem vs_all (ds : List Nat) (i : Nat) (h : ds.length ≤ i) : vs (fun j => ds.getD j 0) i = val ds := by rw [vs_take, List.take_of_length_le h]

/-- The carry ahead of place i when f times b is added to y. -/
def car (y b : List Nat) (f : Nat) : Nat → Nat
  | 0 => 0
  | i + 1 => (y.getD i 0 + car y b f i + b.getD i 0 * f) / 1000000000
/-- The limb at place i of that sum. -/
def sumAt (y b : List Nat) (f i : Nat) : Nat := (y.getD i 0 + car y b f i + b.getD i 0 * f) % 1000000000
theorem car_sum (y b : List Nat) (f i : Nat) : vs (sumAt y b f) i + 1000000000 ^ i * car y b f i = val (y.take i) + f * val (b.take i) := by
  rw [← vs_take, ← vs_take]
  induction i with
  | zero => simp [vs, car]
  | succ i ih =>
    have h : sumAt y b f i + 1000000000 * car y b f (i + 1) = y.getD i 0 + car y b f i + b.getD i 0 * f := by
      simp only [sumAt, car]; omega
    simp only [vs, Nat.pow_succ]
    generalize y.getD i 0 = u at *
    generalize b.getD i 0 = v at *
    grind
theorem car_lt (y b : List Nat) (f i : Nat) (hy : Digs y) (hb : Digs b) (hf : f < 1000000000) : car y b f i < 1000000000 := by
  induction i with
  | zero => simp [car]
  | succ i ih =>
    have h1 := hy.getD i
    have h2 := hb.getD i
    simp only [car]
    have h3 : b.getD i 0 * f ≤ 999999999 * 999999999 := Nat.mul_le_mul (by omega) (by omega)
    omega
theorem sumAt_digs (y b : List Nat) (f n : Nat) : Digs ((List.range n).map (sumAt y b f)) := by
  intro d hd
  obtain ⟨i, _, rfl⟩ := List.mem_map.mp hd
  simp only [sumAt]; omega
/-- The borrow ahead of place i when f times b is taken from y. -/
def bor (y b : List Nat) (f : Nat) : Nat → Nat
  | 0 => 0
  | i + 1 => (bor y b f i + b.getD i 0 * f) / 1000000000 + if y.getD i 0 < (bor y b f i + b.getD i 0 * f) % 1000000000 then 1 else 0
/-- The limb at place i of that difference. -/
def difAt (y b : List Nat) (f i : Nat) : Nat :=
  if y.getD i 0 < (bor y b f i + b.getD i 0 * f) % 1000000000 then y.getD i 0 + 1000000000 - (bor y b f i + b.getD i 0 * f) % 1000000000 else y.getD i 0 - (bor y b f i + b.getD i 0 * f) % 1000000000
theorem bor_sum (y b : List Nat) (f i : Nat) : vs (difAt y b f) i + f * val (b.take i) = val (y.take i) + 1000000000 ^ i * bor y b f i := by
  rw [← vs_take, ← vs_take]
  induction i with
  | zero => simp [vs, bor]
  | succ i ih =>
    have h : difAt y b f i + (bor y b f i + b.getD i 0 * f) = y.getD i 0 + 1000000000 * bor y b f (i + 1) := by
      simp only [difAt, bor]; split <;> omega
    simp only [vs, Nat.pow_succ]
    generalize y.getD i 0 = u at *
    generalize b.getD i 0 = v at *
    grind
theorem bor_le (y b : List Nat) (f i : Nat) (hb : Digs b) (hf : f ≤ 1000000000) : bor y b f i ≤ 1000000000 := by
  induction i with
  | zero => simp [bor]
  | succ i ih =>
    have h2 := hb.getD i
    simp only [bor]
    have h3 : b.getD i 0 * f ≤ 999999999 * 1000000000 := Nat.mul_le_mul (by omega) (by omega)
    split <;> omega
theorem difAt_digs (y b : List Nat) (f n : Nat) (hy : Digs y) : Digs ((List.range n).map (difAt y b f)) := by
  intro d hd
  obtain ⟨i, _, rfl⟩ := List.mem_map.mp hd
  have := hy.getD i
  simp only [difAt]; split <;> omega

/-- -1, 0 or 1, as x is less than, equal to or greater than y. -/
def sgn (x y : Nat) : Int := if x < y then -1 else if x = y then 0 else 1
theorem val_lt_len {a b : List Nat} (ha : Digs a) (hb : Canon b) (h : a.length < b.length) : val a < val b := by
  have h1 := val_lt ha
  have h2 := can_pos hb (by omega)
  have h3 : 1000000000 ^ a.length ≤ 1000000000 ^ (b.length - 1) := Nat.pow_le_pow_right (by decide) (by omega)
  omega
theorem val_lt_at {a b : List Nat} (ha : Digs a) (i : Nat) (hia : i < a.length) (hib : i < b.length) (he : a.drop (i + 1) = b.drop (i + 1)) (hlt : a[i] < b[i]) : val a < val b := by
  rw [val_take_drop a i (by omega), val_take_drop b i (by omega), val_drop_succ a i hia, val_drop_succ b i hib, he]
  have h1 := val_lt (ha.take i)
  rw [List.length_take, Nat.min_eq_left (by omega)] at h1
  generalize val (b.drop (i + 1)) = X
  have h2 : 1000000000 ^ i * (a[i] + 1000000000 * X + 1) ≤ 1000000000 ^ i * (b[i] + 1000000000 * X) := Nat.mul_le_mul_left _ (by omega)
  rw [Nat.mul_add, Nat.mul_one] at h2
  omega
theorem drop_eq_succ {a b : List Nat} (i : Nat) (hia : i < a.length) (hib : i < b.length) (he : a.drop (i + 1) = b.drop (i + 1)) (h : a[i] = b[i]) : a.drop i = b.drop i := by
  rw [List.drop_eq_getElem_cons hia, List.drop_eq_getElem_cons hib, he, h]

/-- What is left when the zeros at the high end are cut off. -/
theorem trim_at {ds : List Nat} (h : Digs ds) (m : Nat) (hm : m ≤ ds.length) (hv : val (ds.take m) = val ds) (hl : m = 0 ∨ ds.getD (m - 1) 0 ≠ 0) : ds.take m = dig (val ds) := by
  rw [← hv, dig_of_can]
  refine ⟨h.take m, ?_⟩
  rcases hl with rfl | hl
  · simp
  · by_cases h0 : m = 0
    · subst h0; simp
    rw [List.getLast?_eq_getElem?, List.length_take, Nat.min_eq_left hm, List.getElem?_take_of_lt (by omega)]
    intro e
    apply hl
    simp [List.getD, e]
theorem trim_step {ds : List Nat} (m : Nat) (hm : m + 1 ≤ ds.length) (h0 : ds.getD m 0 = 0) : val (ds.take (m + 1)) = val (ds.take m) := by
  rw [val_take_succ _ _ (by omega)]
  have : ds[m] = 0 := by simpa [List.getD, show m < ds.length by omega] using h0
  rw [this]; simp
theorem canon_pre {ds : List Nat} (h : Digs ds) : ds.take (dig (val ds)).length = dig (val ds) := by
  have key : ∀ m, m ≤ ds.length → val (ds.take m) = val ds → ds.take (dig (val ds)).length = dig (val ds) := by
    intro m
    induction m with
    | zero =>
      intro hm hv
      have e := trim_at h 0 hm hv (.inl rfl)
      rw [← e]; simp
    | succ m ih =>
      intro hm hv
      by_cases h0 : ds.getD m 0 = 0
      · exact ih (by omega) (by rw [← trim_step m hm h0]; exact hv)
      · have e := trim_at h (m + 1) hm hv (.inr (by simpa using h0))
        rw [← e]
        simp
  exact key ds.length (Nat.le_refl _) (by rw [List.take_length])
end Go.Proofs.Ytdilbhkdkppodaa.Nt
