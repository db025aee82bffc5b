/- Contracts of NatSub, of the model (with l02Sub) and of the program. Conditions: none. -/
import Derived.Test.YtfhndfcncedieaaDoorProg
import Derived.Test.YtfhndfcncedieaaDoorNatCmp
import Derived.Test.YtfhndfcncedieaaDoorNatAdd
namespace Go.Proofs.YtfhndfcncedieaaDoor
open Go.RowKit Nt
set_option linter.unusedVariables false

theorem bor_one (y b : List Nat) (k : Nat) (hy : Digs y) (hb : Digs b) : bor y b 1 k ≤ 1 := by
  induction k with
  | zero => simp [bor]
  | succ k ih =>
    have h2 := hb.getD k
    have h1 := hy.getD k
    simp only [bor]
    split <;> omega
theorem dif_one (y b : List Nat) (k : Nat) (hy : Digs y) (hb : Digs b) : (y.getD k 0 < bor y b 1 k + b.getD k 0 → difAt y b 1 k = y.getD k 0 + 1000000000 - (bor y b 1 k + b.getD k 0) ∧ bor y b 1 (k + 1) = 1) ∧ (¬ y.getD k 0 < bor y b 1 k + b.getD k 0 → difAt y b 1 k = y.getD k 0 - (bor y b 1 k + b.getD k 0) ∧ bor y b 1 (k + 1) = 0) := by
  have h0 := bor_one y b k hy hb
  have h2 := hb.getD k
  have h1 := hy.getD k
  simp only [bor, difAt, Nat.mul_one]
  generalize y.getD k 0 = u at *
  generalize b.getD k 0 = v at *
  generalize bor y b 1 k = s at *
  constructor
  · intro h
    by_cases h3 : s + v = 1000000000
    · rw [h3]; constructor <;> simp
    · have e : (s + v) % 1000000000 = s + v := Nat.mod_eq_of_lt (by omega)
      have e2 : (s + v) / 1000000000 = 0 := Nat.div_eq_of_lt (by omega)
      rw [e, e2, if_pos h, if_pos h]; omega
  · intro h
    have e : (s + v) % 1000000000 = s + v := Nat.mod_eq_of_lt (by omega)
    have e2 : (s + v) / 1000000000 = 0 := Nat.div_eq_of_lt (by omega)
    rw [e, e2, if_neg h, if_neg h]; omega
/-- The difference that a loop of subtractTimes leaves, where nothing is owed. -/
theorem sub_val (Y bs : List Nat) (f n : Nat) (hY : Digs Y) (hn : Y.length = n) (hb : bs.length ≤ n) (hle : f * val bs ≤ val Y) : val ((List.range n).map (difAt Y bs f)) = val Y - f * val bs ∧ bor Y bs f n = 0 := by
  have h := bor_sum Y bs f n
  rw [List.take_of_length_le hb, List.take_of_length_le (show Y.length ≤ n by omega)] at h
  have hlt := val_lt (difAt_digs Y bs f n hY)
  rw [List.length_map, List.length_range, vs_range] at hlt
  have h0 : bor Y bs f n = 0 := by
    rcases Nat.eq_zero_or_pos (bor Y bs f n) with h0 | h0
    · exact h0
    · have := Nat.le_mul_of_pos_right (1000000000 ^ n) h0
      omega
  rw [vs_range]
  rw [h0] at h
  exact ⟨by omega, h0⟩
theorem canon_len {a b : List Nat} (ha : Canon a) (hb : Digs b) (h : val a ≤ val b) : a.length ≤ b.length := by
  rcases Nat.lt_or_ge b.length a.length with h1 | h1
  · have := val_lt_len hb ha h1; omega
  · exact h1
/-- What NatSub answers. -/
def subN (xs ys : List Int) : List Nat := if okI xs = true ∧ okI ys = true then dig (val (toN xs) - val (toN ys)) else []
theorem subN_yes {xs ys : List Int} (h1 : okI xs = true) (h2 : okI ys = true) : subN xs ys = dig (val (toN xs) - val (toN ys)) := by rw [subN, if_pos ⟨h1, h2⟩]
theorem subN_no {xs ys : List Int} (h : okI xs = false ∨ okI ys = false) : subN xs ys = [] := by rw [subN, if_neg (by rintro ⟨h1, h2⟩; rcases h with h | h <;> simp_all)]
theorem subN_len (xs ys : List Int) : (subN xs ys).length ≤ 60 := by
  unfold subN
  split
  · rename_i h
    obtain ⟨_, h1, h2⟩ := okI_nats h.1
    refine dig_len (Nat.lt_of_le_of_lt (Nat.sub_le _ _) (Nat.lt_of_lt_of_le (val_lt h1.1) (Nat.pow_le_pow_right (by decide) h2)))
  · simp
theorem cmpI_nats (ds es : List Nat) (h1 : Canon ds) (h2 : Canon es) (h3 : ds.length ≤ 60) (h4 : es.length ≤ 60) : cmpI (ds.map fun d : Nat => (d : Int)) (es.map fun d : Nat => (d : Int)) = sgn (val ds) (val es) := by
  rw [cmpI, if_pos ⟨okI_of_nats h1 h3, okI_of_nats h2 h4⟩, toN_nats, toN_nats]
end Go.Proofs.YtfhndfcncedieaaDoor
