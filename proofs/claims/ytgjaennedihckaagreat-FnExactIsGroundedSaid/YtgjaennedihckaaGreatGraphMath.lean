/- Graphs of links: ascending lists, neighbors, what can be reached, nodes: facts about lists of pairs alone. Conditions: none. -/
import Derived.Test.YtgjaennedihckaaGreatProg
namespace Go.Proofs.YtgjaennedihckaaGreat.Gr
/-- Is the list in strictly ascending order? -/
def Asc (l : List Int) : Prop := l.Pairwise (fun a b => a < b)
/-- A number put into an ascending list, once. -/
def putI : List Int → Int → List Int
  | [], n => [n]
  | x :: r, n => if x < n then x :: putI r n else if x = n then x :: r else n :: x :: r
theorem mem_putI {l : List Int} {n x : Int} : x ∈ putI l n ↔ x ∈ l ∨ x = n := by
  induction l with
  | nil => simp [putI]
  | cons y r ih =>
    unfold putI
    split
    · rw [List.mem_cons, ih, List.mem_cons]
      constructor
      · rintro (h | h | h)
        · exact .inl (.inl h)
        · exact .inl (.inr h)
        · exact .inr h
      · rintro ((h | h) | h)
        · exact .inl h
        · exact .inr (.inl h)
        · exact .inr (.inr h)
    · split
      · rename_i h; subst h
        constructor
        · exact fun h => .inl h
        · rintro (h | h)
          · exact h
          · rw [h]; simp
      · constructor
        · intro h
          rcases List.mem_cons.mp h with h | h
          · exact .inr h
          · exact .inl h
        · rintro (h | h)
          · exact List.mem_cons_of_mem _ h
          · rw [h]; simp
theorem asc_putI {l : List Int} (n : Int) (h : Asc l) : Asc (putI l n) := by
  induction l with
  | nil => exact List.pairwise_singleton _ _
  | cons y r ih =>
    obtain ⟨h1, h2⟩ := List.pairwise_cons.mp h
    unfold putI
    split
    · refine List.pairwise_cons.mpr ⟨fun z hz => ?_, ih h2⟩
      rcases mem_putI.mp hz with hz | rfl
      · exact h1 z hz
      · assumption
    · split
      · exact h
      · refine List.pairwise_cons.mpr ⟨fun z hz => ?_, h⟩
        rcases List.mem_cons.mp hz with rfl | hz
        · omega
        · have := h1 z hz; omega
theorem len_putI (l : List Int) (n : Int) : (putI l n).length ≤ l.length + 1 := by
  induction l with
  | nil => simp [putI]
  | cons y r ih =>
    unfold putI
    split
    · simp; exact ih
    · split <;> simp
/-- Where the first m are smaller: the rest decides. -/
theorem putI_at {l : List Int} {n : Int} {m : Nat} (hm : m ≤ l.length) (h : ∀ i (hi : i < l.length), i < m → l[i] < n) : putI l n = l.take m ++ putI (l.drop m) n := by
  induction l generalizing m with
  | nil => simp at hm; subst hm; simp
  | cons y r ih =>
    cases m with
    | zero => simp
    | succ m =>
      have h0 := h 0 (by simp) (by omega)
      simp only [List.getElem_cons_zero] at h0
      show (if y < n then y :: putI r n else _) = _
      rw [if_pos h0, ih (m := m) (by simpa using hm) (fun i hi him => by
        have := h (i + 1) (by simpa using hi) (by omega)
        simpa using this)]
      simp
theorem putI_same {l : List Int} {n : Int} {m : Nat} (hm : m < l.length) (h : ∀ i (hi : i < l.length), i < m → l[i] < n) (e : l[m] = n) : putI l n = l := by
  rw [putI_at (Nat.le_of_lt hm) h, List.drop_eq_getElem_cons hm, e]
  show _ ++ (if n < n then _ else if n = n then _ else _) = _
  rw [if_neg (by omega), if_pos rfl, ← e, ← List.drop_eq_getElem_cons hm, List.take_append_drop]
theorem putI_new {l : List Int} {n : Int} {m : Nat} (hm : m ≤ l.length) (h : ∀ i (hi : i < l.length), i < m → l[i] < n) (e : ∀ hi : m < l.length, n < l[m]) : putI l n = l.take m ++ [n] ++ l.drop m := by
  rw [putI_at hm h]
  by_cases hl : m < l.length
  · rw [List.drop_eq_getElem_cons hl]
    have := e hl
    show _ ++ (if l[m] < n then _ else if l[m] = n then _ else _) = _
    rw [if_neg (by omega), if_neg (by omega)]; simp
  · rw [List.drop_eq_nil_of_le (by omega)]; simp [putI]
theorem Asc.nodup {l : List Int} (h : Asc l) : l.Nodup := List.Pairwise.imp (fun {a b} (hab : a < b) => by omega) h
/-- Ascending lists of the same members are one. -/
theorem asc_ext {l m : List Int} (hl : Asc l) (hm : Asc m) (h : ∀ x, x ∈ l ↔ x ∈ m) : l = m := by
  induction l generalizing m with
  | nil =>
    cases m with
    | nil => rfl
    | cons y r => have := (h y).mpr (by simp); simp at this
  | cons x r ih =>
    cases m with
    | nil => have := (h x).mp (by simp); simp at this
    | cons y s =>
      obtain ⟨a1, a2⟩ := List.pairwise_cons.mp hl
      obtain ⟨b1, b2⟩ := List.pairwise_cons.mp hm
      have e : x = y := by
        have p := (h x).mp (by simp)
        have q := (h y).mpr (by simp)
        rcases List.mem_cons.mp p with p | p
        · exact p
        · rcases List.mem_cons.mp q with q | q
          · exact q.symm
          · have := b1 x p; have := a1 y q; omega
      subst e
      refine congrArg (x :: ·) (ih a2 b2 fun z => ?_)
      constructor
      · intro hz
        rcases List.mem_cons.mp ((h z).mp (List.mem_cons_of_mem _ hz)) with rfl | q
        · have := a1 z hz; omega
        · exact q
      · intro hz
        rcases List.mem_cons.mp ((h z).mpr (List.mem_cons_of_mem _ hz)) with rfl | q
        · have := b1 z hz; omega
        · exact q
theorem nodup_le {l m : List Int} (h : l.Nodup) (hs : ∀ x ∈ l, x ∈ m) : l.length ≤ m.length := by
  induction l generalizing m with
  | nil => simp
  | cons x r ih =>
    obtain ⟨h1, h2⟩ := List.pairwise_cons.mp h
    have hx := hs x (by simp)
    have := ih (m := m.erase x) h2 (fun y hy => (List.mem_erase_of_ne (fun e => h1 y hy e.symm)).mpr (hs y (by simp [hy])))
    rw [List.length_erase_of_mem hx] at this
    have := List.length_pos_of_mem hx
    simp; omega
/-- The ends of links. -/
abbrev Eds := List (Int × Int)
def adj (es : Eds) (x y : Int) : Prop := (x, y) ∈ es ∨ (y, x) ∈ es
/-- A link set's ends: nodes, the first less than the second, ascending. -/
def OkE (es : Eds) : Prop := (∀ e ∈ es, 0 ≤ e.1 ∧ e.1 < e.2 ∧ e.2 < 10) ∧ es.Pairwise fun p q => p.1 < q.1 ∨ (p.1 = q.1 ∧ p.2 < q.2)
/-- What one link adds to the neighbors of v. -/
def adjOne (v : Int) (e : Int × Int) : List Int := (if e.1 = v then [e.2] else []) ++ (if e.2 = v then [e.1] else [])
def adjI (es : Eds) (v : Int) : List Int := es.flatMap (adjOne v)
theorem mem_adjOne {v x : Int} {e : Int × Int} : x ∈ adjOne v e ↔ (e = (v, x) ∨ e = (x, v)) := by
  obtain ⟨a, b⟩ := e
  unfold adjOne
  simp only [List.mem_append, Prod.mk.injEq]
  constructor
  · rintro (h | h)
    · split at h
      · simp at h; exact .inl ⟨by assumption, h.symm⟩
      · simp at h
    · split at h
      · simp at h; exact .inr ⟨h.symm, by assumption⟩
      · simp at h
  · rintro (⟨h1, h2⟩ | ⟨h1, h2⟩)
    · left; rw [if_pos h1, h2]; simp
    · right; rw [if_pos h2, h1]; simp
theorem mem_adjI {es : Eds} {v x : Int} : x ∈ adjI es v ↔ adj es v x := by
  unfold adjI adj
  rw [List.mem_flatMap]
  constructor
  · rintro ⟨e, he, hx⟩
    rcases mem_adjOne.mp hx with rfl | rfl
    · exact .inl he
    · exact .inr he
  · rintro (h | h)
    · exact ⟨_, h, mem_adjOne.mpr (.inl rfl)⟩
    · exact ⟨_, h, mem_adjOne.mpr (.inr rfl)⟩
theorem asc_adjI {es : Eds} (h : OkE es) (v : Int) : Asc (adjI es v) := by
  unfold adjI Asc
  rw [List.pairwise_flatMap]
  refine ⟨fun e he => ?_, ?_⟩
  · have := h.1 e he
    unfold adjOne
    split <;> split <;> simp <;> omega
  · refine List.Pairwise.imp_of_mem (fun {p q} hp hq hpq x hx y hy => ?_) h.2
    have h1 := h.1 p hp
    have h2 := h.1 q hq
    rcases mem_adjOne.mp hx with rfl | rfl <;> rcases mem_adjOne.mp hy with rfl | rfl <;> simp at * <;> omega
/-- The neighbors as the model gathers them. -/
def nearOne (v : Int) (out : List Int) (e : Int × Int) : List Int :=
  let o := if e.1 = v then putI out e.2 else out
  if e.2 = v then putI o e.1 else o
def nearP (es : Eds) (v : Int) : List Int := es.foldl (nearOne v) []
theorem nearOne_mem {v x : Int} {out : List Int} {e : Int × Int} : x ∈ nearOne v out e ↔ x ∈ out ∨ x ∈ adjOne v e := by
  obtain ⟨a, b⟩ := e
  unfold nearOne adjOne
  simp only [List.mem_append]
  by_cases h1 : a = v <;> by_cases h2 : b = v <;> simp [h1, h2, mem_putI]
theorem nearOne_asc {v : Int} {out : List Int} {e : Int × Int} (h : Asc out) : Asc (nearOne v out e) := by
  unfold nearOne
  simp only
  split <;> split <;> first | exact asc_putI _ (asc_putI _ h) | exact asc_putI _ h | exact h
theorem near_fold (es : Eds) (v : Int) (out : List Int) (h : Asc out) : Asc (es.foldl (nearOne v) out) ∧ ∀ x, x ∈ es.foldl (nearOne v) out ↔ x ∈ out ∨ x ∈ adjI es v := by
  induction es generalizing out with
  | nil => simp [adjI, h]
  | cons e r ih =>
    obtain ⟨h1, h2⟩ := ih (nearOne v out e) (nearOne_asc h)
    refine ⟨h1, fun x => ?_⟩
    rw [List.foldl_cons, h2, nearOne_mem, show adjI (e :: r) v = adjOne v e ++ adjI r v from rfl, List.mem_append, or_assoc]
theorem nearP_eq {es : Eds} (h : OkE es) (v : Int) : nearP es v = adjI es v := by
  obtain ⟨h1, h2⟩ := near_fold es v [] List.Pairwise.nil
  exact asc_ext h1 (asc_adjI h v) fun x => by rw [show nearP es v = es.foldl (nearOne v) [] from rfl, h2]; simp
theorem asc_near (es : Eds) (v : Int) : Asc (nearP es v) := (near_fold es v [] List.Pairwise.nil).1
theorem mem_near {es : Eds} {v x : Int} : x ∈ nearP es v ↔ adj es v x := by
  rw [show nearP es v = es.foldl (nearOne v) [] from rfl, (near_fold es v [] List.Pairwise.nil).2, mem_adjI]; simp
/-- What can be reached. -/
inductive Reach (es : Eds) (v : Int) : Int → Prop
  | refl : Reach es v v
  | step {x y : Int} : Reach es v x → adj es x y → Reach es v y
/-- A list of all that can be reached from v. -/
def Comp (es : Eds) (v : Int) (l : List Int) : Prop := ∀ x, x ∈ l ↔ Reach es v x
theorem comp_of {es : Eds} {v : Int} {l : List Int} (h0 : v ∈ l) (h1 : ∀ x ∈ l, Reach es v x) (h2 : ∀ x ∈ l, ∀ y, adj es x y → y ∈ l) : Comp es v l := by
  intro x
  refine ⟨h1 x, fun h => ?_⟩
  induction h with
  | refl => exact h0
  | step _ ha ih => exact h2 _ ih _ ha
theorem adj_node {es : Eds} (h : OkE es) {x y : Int} (ha : adj es x y) : (0 ≤ x ∧ x < 10) ∧ (0 ≤ y ∧ y < 10) := by
  rcases ha with ha | ha <;> have := h.1 _ ha <;> simp at this <;> omega
/-- The first ten nodes. -/
def ten : List Int := [0, 1, 2, 3, 4, 5, 6, 7, 8, 9]
theorem mem_ten {x : Int} (h : 0 ≤ x ∧ x < 10) : x ∈ ten := by
  obtain ⟨n, rfl⟩ : ∃ n : Nat, x = n := ⟨x.toNat, by omega⟩
  have : n < 10 := by omega
  match n, this with
  | 0, _ | 1, _ | 2, _ | 3, _ | 4, _ | 5, _ | 6, _ | 7, _ | 8, _ | 9, _ => simp [ten]
theorem reach_ten {es : Eds} (h : OkE es) {v x : Int} (hr : Reach es v x) : x = v ∨ x ∈ ten := by
  cases hr with
  | refl => exact .inl rfl
  | step _ ha => exact .inr (mem_ten (adj_node h ha).2)
theorem reach_len {es : Eds} (h : OkE es) {v : Int} {l : List Int} (hn : l.Nodup) (hr : ∀ x ∈ l, Reach es v x) : l.length ≤ 11 := by
  have := nodup_le (m := v :: ten) hn fun x hx => by
    rcases reach_ten h (hr x hx) with rfl | e
    · simp
    · simp [e]
  simpa [ten] using this
/-- All neighbors of the xs put in. -/
def passP (es : Eds) (out : List Int) (xs : List Int) : List Int := xs.foldl (fun o x => (nearP es x).foldl putI o) out
theorem fold_put (ys out : List Int) (h : Asc out) : Asc (ys.foldl putI out) ∧ ∀ x, x ∈ ys.foldl putI out ↔ x ∈ out ∨ x ∈ ys := by
  induction ys generalizing out with
  | nil => simp [h]
  | cons y r ih =>
    obtain ⟨h1, h2⟩ := ih (putI out y) (asc_putI y h)
    refine ⟨h1, fun x => ?_⟩
    rw [List.foldl_cons, h2, mem_putI, List.mem_cons, or_assoc]
theorem fold_put_len (ys out : List Int) : (ys.foldl putI out).length ≤ out.length + ys.length := by
  induction ys generalizing out with
  | nil => simp
  | cons y r ih => rw [List.foldl_cons]; have := ih (putI out y); have := len_putI out y; simp; omega
theorem pass_fold (es : Eds) (xs out : List Int) (h : Asc out) : Asc (passP es out xs) ∧ ∀ y, y ∈ passP es out xs ↔ y ∈ out ∨ ∃ x ∈ xs, adj es x y := by
  induction xs generalizing out with
  | nil => simp [passP, h]
  | cons x r ih =>
    obtain ⟨a1, a2⟩ := fold_put (nearP es x) out h
    obtain ⟨h1, h2⟩ := ih _ a1
    refine ⟨h1, fun y => ?_⟩
    rw [show passP es out (x :: r) = passP es ((nearP es x).foldl putI out) r from rfl, h2, a2, mem_near]
    simp [or_assoc]
/-- The model's rounds. -/
def compN (es : Eds) (v : Int) : Nat → List Int
  | 0 => [v]
  | n + 1 => passP es (compN es v n) (compN es v n)
theorem compN_asc (es : Eds) (v : Int) (n : Nat) : Asc (compN es v n) := by
  induction n with
  | zero => exact List.pairwise_singleton _ _
  | succ n ih => exact (pass_fold es _ _ ih).1
theorem compN_succ {es : Eds} {v : Int} {n : Nat} {y : Int} : y ∈ compN es v (n + 1) ↔ y ∈ compN es v n ∨ ∃ x ∈ compN es v n, adj es x y := (pass_fold es _ _ (compN_asc es v n)).2 y
theorem compN_start (es : Eds) (v : Int) (n : Nat) : v ∈ compN es v n := by
  induction n with
  | zero => simp [compN]
  | succ n ih => exact compN_succ.mpr (.inl ih)
theorem compN_reach {es : Eds} {v : Int} {n : Nat} {x : Int} (h : x ∈ compN es v n) : Reach es v x := by
  induction n generalizing x with
  | zero => simp [compN] at h; subst h; exact .refl
  | succ n ih =>
    rcases compN_succ.mp h with h | ⟨y, hy, ha⟩
    · exact ih h
    · exact .step (ih hy) ha
def Closed (es : Eds) (l : List Int) : Prop := ∀ x ∈ l, ∀ y, adj es x y → y ∈ l
open Classical in
theorem compN_closed {es : Eds} {v : Int} (n : Nat) : Closed es (compN es v n) ∨ n + 1 ≤ (compN es v n).length := by
  induction n with
  | zero => right; simp [compN]
  | succ n ih =>
    by_cases hc : Closed es (compN es v n)
    · left
      intro x hx y ha
      have hx' : x ∈ compN es v n := by
        rcases compN_succ.mp hx with h | ⟨z, hz, h⟩
        · exact h
        · exact hc z hz x h
      exact compN_succ.mpr (.inl (hc x hx' y ha))
    · right
      have hl := ih.resolve_left hc
      unfold Closed at hc
      simp only [Classical.not_forall] at hc
      obtain ⟨x, hx, y, ha, hy⟩ := hc
      have := nodup_le (l := y :: compN es v n) (m := compN es v (n + 1)) (List.pairwise_cons.mpr ⟨fun z hz e => hy (e ▸ hz), (compN_asc es v n).nodup⟩) (fun z hz => by
        rcases List.mem_cons.mp hz with rfl | hz
        · exact compN_succ.mpr (.inr ⟨x, hx, ha⟩)
        · exact compN_succ.mpr (.inl hz))
      simp at this; omega
theorem compN_ten {es : Eds} (h : OkE es) (v : Int) : Comp es v (compN es v 10) := by
  refine comp_of (compN_start es v 10) (fun x hx => compN_reach hx) ?_
  rcases compN_closed (es := es) (v := v) 10 with hc | hl
  · exact hc
  · intro x hx y ha
    exfalso
    have hin : ∀ z ∈ compN es v 10, z ∈ ten := by
      intro z hz
      rcases reach_ten h (compN_reach hz) with rfl | e
      · by_cases hx' : x = z
        · subst hx'; exact mem_ten (adj_node h ha).1
        · cases compN_reach hx with
          | refl => exact absurd rfl hx'
          | step hr ha' =>
            have : ∀ u, Reach es z u → u ≠ z → ∃ t, adj es z t := by
              intro u hu
              induction hu with
              | refl => intro e; exact absurd rfl e
              | step hr2 ha2 ih2 =>
                rename_i p q
                intro _
                by_cases e : p = z
                · subst e; exact ⟨_, ha2⟩
                · exact ih2 e
            obtain ⟨t, ht⟩ := this x (.step hr ha') hx'
            exact mem_ten (adj_node h ht).1
      · exact e
    have := nodup_le (compN_asc es v 10).nodup hin
    simp [ten] at this; omega
/-- The nodes of links other than 0. -/
def nodesOne (out : List Int) (e : Int × Int) : List Int := putI (if 0 < e.1 then putI out e.1 else out) e.2
def nodesP (es : Eds) : List Int := es.foldl nodesOne []
def isEnd (es : Eds) (x : Int) : Prop := ∃ e ∈ es, e.1 = x ∨ e.2 = x
theorem nodes_fold (es : Eds) (out : List Int) (h : Asc out) (hp : ∀ e ∈ es, 0 < e.2) : Asc (es.foldl nodesOne out) ∧ ∀ x, x ∈ es.foldl nodesOne out ↔ x ∈ out ∨ (0 < x ∧ isEnd es x) := by
  induction es generalizing out with
  | nil => simp [isEnd, h]
  | cons e r ih =>
    have ha : Asc (nodesOne out e) := by
      unfold nodesOne
      split
      · exact asc_putI _ (asc_putI _ h)
      · exact asc_putI _ h
    obtain ⟨h1, h2⟩ := ih (nodesOne out e) ha (fun q hq => hp q (by simp [hq]))
    refine ⟨h1, fun x => ?_⟩
    have he := hp e (by simp)
    rw [List.foldl_cons, h2]
    have hm : x ∈ nodesOne out e ↔ x ∈ out ∨ (0 < x ∧ (e.1 = x ∨ e.2 = x)) := by
      unfold nodesOne
      rw [mem_putI]
      split
      · rw [mem_putI]
        constructor
        · rintro ((h | h) | h)
          · exact .inl h
          · exact .inr ⟨by omega, .inl h.symm⟩
          · exact .inr ⟨by omega, .inr h.symm⟩
        · rintro (h | ⟨_, h | h⟩)
          · exact .inl (.inl h)
          · exact .inl (.inr h.symm)
          · exact .inr h.symm
      · constructor
        · rintro (h | h)
          · exact .inl h
          · exact .inr ⟨by omega, .inr h.symm⟩
        · rintro (h | ⟨_, h | h⟩)
          · exact .inl h
          · omega
          · exact .inr h.symm
    rw [hm]
    unfold isEnd
    simp only [List.mem_cons]
    constructor
    · rintro ((h | ⟨h, h'⟩) | ⟨h, q, hq, h'⟩)
      · exact .inl h
      · exact .inr ⟨h, e, .inl rfl, h'⟩
      · exact .inr ⟨h, q, .inr hq, h'⟩
    · rintro (h | ⟨h, q, rfl | hq, h'⟩)
      · exact .inl (.inl h)
      · exact .inl (.inr ⟨h, h'⟩)
      · exact .inr ⟨h, q, hq, h'⟩
theorem nodesP_asc {es : Eds} (h : OkE es) : Asc (nodesP es) := (nodes_fold es [] List.Pairwise.nil (fun e he => by have := h.1 e he; omega)).1
theorem mem_nodesP {es : Eds} (h : OkE es) {x : Int} : x ∈ nodesP es ↔ (0 < x ∧ isEnd es x) := by
  rw [show nodesP es = es.foldl nodesOne [] from rfl, (nodes_fold es [] List.Pairwise.nil (fun e he => by have := h.1 e he; omega)).2]; simp
end Go.Proofs.YtgjaennedihckaaGreat.Gr
