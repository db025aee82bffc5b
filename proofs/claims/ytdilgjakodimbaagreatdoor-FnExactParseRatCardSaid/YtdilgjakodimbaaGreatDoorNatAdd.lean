/- Contracts of NatAdd, of the model (with l02Add, l02Cap) and of the program. Conditions: none. -/
import Derived.Test.YtdilgjakodimbaaGreatDoorProg
import Derived.Test.YtdilgjakodimbaaGreatDoorNatOk
import Derived.Test.YtdilgjakodimbaaGreatDoorNatOf
import Derived.Test.YtdilgjakodimbaaGreatDoorRow
namespace Go.Proofs.YtdilgjakodimbaaGreatDoor
open Go.RowKit Nt
set_option linter.unusedVariables false

theorem car_one (y b : List Nat) (k : Nat) (hy : Digs y) (hb : Digs b) : car y b 1 k ≤ 1 := by
  induction k with
  | zero => simp [car]
  | succ k ih =>
    have h1 := hy.getD k
    have h2 := hb.getD k
    simp only [car]
    omega
/-- The sum that a loop of addTimes leaves, where nothing is carried out. -/
theorem add_val (Y bs : List Nat) (f n : Nat) (hn : Y.length = n) (hb : bs.length ≤ n) (hlt : val Y + f * val bs < 1000000000 ^ n) : val ((List.range n).map (sumAt Y bs f)) = val Y + f * val bs ∧ car Y bs f n = 0 := by
  have h := car_sum Y bs f n
  rw [List.take_of_length_le (by omega), List.take_of_length_le hb] at h
  have h0 : car Y bs f n = 0 := by
    rcases Nat.eq_zero_or_pos (car Y bs f n) with h0 | h0
    · exact h0
    · have := Nat.le_mul_of_pos_right (1000000000 ^ n) h0
      omega
  rw [vs_range]
  rw [h0] at h
  exact ⟨by omega, h0⟩
theorem upd_all (Y : List Nat) (n : Nat) (F : Nat → Nat) (hn : Y.length = n) : upd Y 0 n F = (List.range n).map F := by
  simp [upd, List.drop_of_length_le (show Y.length ≤ n by omega)]
theorem val_pad (ds : List Nat) (k : Nat) : val (ds ++ List.replicate k 0) = val ds := by rw [val_append, val_zeros]; simp
theorem digs_pad {ds : List Nat} (h : Digs ds) (k : Nat) : Digs (ds ++ List.replicate k 0) := h.app (digs_replicate k)
/-- What NatAdd answers. -/
def addN (xs ys : List Int) : List Nat := if okI xs = true ∧ okI ys = true then capd (val (toN xs) + val (toN ys)) else []
theorem addN_len (xs ys : List Int) : (addN xs ys).length ≤ 60 := by unfold addN; split; exact capd_len _; simp
theorem addN_yes {xs ys : List Int} (h1 : okI xs = true) (h2 : okI ys = true) : addN xs ys = capd (val (toN xs) + val (toN ys)) := by rw [addN, if_pos ⟨h1, h2⟩]
theorem addN_no {xs ys : List Int} (h : okI xs = false ∨ okI ys = false) : addN xs ys = [] := by rw [addN, if_neg (by rintro ⟨h1, h2⟩; rcases h with h | h <;> simp_all)]

theorem OwnV.nil_cap {w : World} {base : Nat} {e : TypeId} {A : Option Addr} {n c : Nat} {xs : List Value} (h : OwnV w base e (.slice A n c) xs) : A = none → c = 0 := by
  rintro rfl
  rcases h with ⟨hv, _⟩ | ⟨g, c', ys, hv, _⟩
  · simp at hv; exact hv.2
  · simp at hv
/-- l02Trim at a row of one's own. -/
theorem l02Trim_own (base : Nat) (A : Option Addr) (n c : Nat) (ds : List Nat) (w : World) (h : OwnV w base 3 (.slice A n c) (nats ds)) (hd : Digs ds) :
    Calls Tryz.prog 26 #[.slice A n c] w fun e w' => e = .returned (.slice A (dig (val ds)).length c) ∧ OwnV w base 3 (.slice A (dig (val ds)).length c) (nats (dig (val ds))) ∧ w' = w := by
  have hl := h.len
  rw [nats_len] at hl
  have hk := dig_le_len hd
  have hc := h.cut (m := (dig (val ds)).length) (c2 := c) (by omega) (by have := h.cap.1; omega) (Nat.le_refl _)
  rw [nats_take, take_dig hd] at hc
  exact (l02Trim_any A n c ds w h.row hd h.cap.1 h.cap.2 h.nil_cap).mono fun e w' ⟨h1, h2⟩ => ⟨h1, hc, h2⟩
end Go.Proofs.YtdilgjakodimbaaGreatDoor
