/- Joined: XEstimate XRedMath XReduce XDivSpec1 XNatDiv XNatGcd. Conditions: none. -/
import Derived.Test.YtodoiekbjjiocaaProg
import Derived.Test.YtodoiekbjjiocaaDiv64
import Derived.Test.YtodoiekbjjiocaaB2
import Derived.Laws.AppendOwnNone
namespace Go.Proofs.Ytodoiekbjjiocaa
open Go.RowKit Nt
set_option linter.unusedVariables false

/-- Three leading limbs by two: the quotient, or 1 more. -/
theorem est_bounds (P k u3 u0 v2 v0 : Nat) (hu : u0 < k) (hv : v0 < k) (hP : P ≤ v2) (hP0 : 0 < P) (hlt : u0 + k * u3 < P * (v0 + k * v2)) :
    (u0 + k * u3) / (v0 + k * v2) ≤ u3 / v2 ∧ u3 / v2 ≤ (u0 + k * u3) / (v0 + k * v2) + 1 ∧ u3 / v2 ≤ P := by
  have hk : 0 < k := by omega
  have hv2 : 0 < v2 := by omega
  have hV : 0 < v0 + k * v2 := Nat.lt_of_lt_of_le (Nat.mul_pos hk hv2) (Nat.le_add_left _ _)
  have hQ : (u0 + k * u3) / (v0 + k * v2) < P := by rw [Nat.div_lt_iff_lt_mul hV]; exact hlt
  have hlow := Nat.div_mul_le_self (u0 + k * u3) (v0 + k * v2)
  have hup := Nat.lt_div_mul_add (a := u0 + k * u3) hV
  generalize (u0 + k * u3) / (v0 + k * v2) = Q at *
  have h1 : Q ≤ u3 / v2 := by
    rw [Nat.le_div_iff_mul_le hv2]
    rcases Nat.lt_or_ge u3 (Q * v2) with h | h
    · exfalso
      have a1 : k * (u3 + 1) ≤ k * (Q * v2) := Nat.mul_le_mul_left k h
      have a2 : k * (Q * v2) ≤ Q * (v0 + k * v2) := by
        rw [Nat.mul_add, ← Nat.mul_assoc, ← Nat.mul_assoc, Nat.mul_comm k Q]; exact Nat.le_add_left _ _
      rw [Nat.mul_add, Nat.mul_one] at a1
      omega
    · exact h
  have h2 : u3 / v2 ≤ Q + 1 := by
    rcases Nat.lt_or_ge (Q + 1) (u3 / v2) with h | h
    · exfalso
      have b1 : (Q + 2) * v2 ≤ u3 := Nat.le_trans (Nat.mul_le_mul_right _ h) (Nat.div_mul_le_self u3 v2)
      have b2 : k * u3 < (Q + 1) * (v0 + k * v2) := by rw [Nat.add_mul, Nat.one_mul]; omega
      have b3 : (Q + 1) * (v0 + k * v2) ≤ (Q + 1) * (k * (v2 + 1)) := Nat.mul_le_mul_left _ (by rw [Nat.mul_add]; omega)
      have b4 : (Q + 1) * (k * (v2 + 1)) = k * ((Q + 1) * (v2 + 1)) := by rw [← Nat.mul_assoc, Nat.mul_comm (Q + 1) k, Nat.mul_assoc]
      have b5 : u3 < (Q + 1) * (v2 + 1) := by
        have : k * u3 < k * ((Q + 1) * (v2 + 1)) := by omega
        exact Nat.lt_of_mul_lt_mul_left this
      have b6 : (Q + 1) * (v2 + 1) = Q * v2 + v2 + Q + 1 := by rw [Nat.add_mul, Nat.mul_add]; omega
      have b7 : (Q + 2) * v2 = Q * v2 + v2 + v2 := by rw [Nat.add_mul]; omega
      omega
    · exact h
  exact ⟨h1, h2, by omega⟩
theorem val_top2 (xs : List Nat) (n : Nat) (hn : xs.length = n + 2) : val xs = val (xs.take n) + 1000000000 ^ n * (xs[n]'(by omega) + 1000000000 * (xs[n + 1]'(by omega))) := by
  rw [val_take_drop xs n (by omega), val_drop_succ xs n (by omega), val_drop_succ xs (n + 1) (by omega), List.drop_of_length_le (by omega)]
  rfl
theorem canon_top {xs : List Nat} (h : Canon xs) (n : Nat) (hn : xs.length = n + 1) : 0 < xs[n]'(by omega) := by
  rcases Nat.eq_zero_or_pos (xs[n]'(by omega)) with h0 | h0
  · exfalso
    apply h.2
    rw [List.getLast?_eq_getElem?, hn, Nat.add_sub_cancel, List.getElem?_eq_getElem (by omega), h0]
  · exact h0
theorem quiet_drew {P : Program} {f : FuncId} {args : Array Value} {w : World} {n : Nat} {v : Value}
    (h : Calls P f args (w.drewN n) fun e w' => e = .returned v ∧ ∃ q, w' = (w.drewN n).drewN q) : Calls P f args (w.drewN n) fun e w'' => e = .returned v ∧ ∃ m, w'' = w.drewN m :=
  h.mono fun _ _ ⟨he, q, hq⟩ => ⟨he, n + q, by rw [hq]; simp⟩
theorem sum_parts64 (K a w hi lo cy l2 : Nat) (h1 : a / K = hi) (h2 : a % K = lo) (h3 : (lo + w + 0) / K = cy) (h4 : (lo + w + 0) % K = l2) : (hi + cy) * K + l2 = a + w := by
  have e1 := Nat.div_add_mod a K
  have e2 := Nat.div_add_mod (lo + w + 0) K
  rw [h1, h2] at e1
  rw [h3, h4] at e2
  rw [Nat.add_mul, Nat.mul_comm hi, Nat.mul_comm cy]
  omega
/-- What is said of a trial quotient. -/
def Est (U V q : Nat) : Prop := U / V ≤ q ∧ q ≤ U / V + 1 ∧ q ≤ 1000000000

end Go.Proofs.Ytodoiekbjjiocaa
namespace Go.Proofs.Ytodoiekbjjiocaa
open Go.RowKit Nt
set_option linter.unusedVariables false

theorem uniq_mod {K x y a b : Nat} (hx : x < K) (hy : y < K) (h : x + K * a = y + K * b) : x = y := by
  have e := congrArg (· % K) h
  simp only [Nat.add_mul_mod_self_left, Nat.mod_eq_of_lt hx, Nat.mod_eq_of_lt hy] at e
  exact e
theorem vs_lt (g : Nat → Nat) (m : Nat) (h : Digs ((List.range m).map g)) : vs g m < 1000000000 ^ m := by
  have h1 := val_lt h
  rw [vs_range, List.length_map, List.length_range] at h1
  exact h1
/-- A round whose trial was right. -/
theorem red_right (ws bs : List Nat) (m h q : Nat) (hwl : ws.length = m) (hbl : bs.length = m) (hws : Digs ws) (hbs : Digs bs) (hV : 0 < val bs) (he : Est (val ws + 1000000000 ^ m * h) (val bs) q) (hle : bor ws bs q m ≤ h) :
    q = (val ws + 1000000000 ^ m * h) / val bs ∧ vs (difAt ws bs q) m = (val ws + 1000000000 ^ m * h) % val bs := by
  have hs := bor_sum ws bs q m
  rw [List.take_of_length_le (show bs.length ≤ m by omega), List.take_of_length_le (show ws.length ≤ m by omega)] at hs
  have hVK : val bs < 1000000000 ^ m := by have := val_lt hbs; rwa [hbl] at this
  have hF := vs_lt _ m (difAt_digs ws bs q m hws)
  have hK := pow_pos m
  obtain ⟨h1, _, _⟩ := he
  have hdm := Nat.div_add_mod (val ws + 1000000000 ^ m * h) (val bs)
  have hml := Nat.mod_lt (val ws + 1000000000 ^ m * h) hV
  have hKb : 1000000000 ^ m * bor ws bs q m ≤ 1000000000 ^ m * h := Nat.mul_le_mul_left _ hle
  have hq : q = (val ws + 1000000000 ^ m * h) / val bs := by
    apply Nat.le_antisymm _ h1
    rw [Nat.le_div_iff_mul_le hV]
    omega
  refine ⟨hq, ?_⟩
  rw [← hq] at hdm
  refine uniq_mod (K := 1000000000 ^ m) (a := h) (b := bor ws bs q m) hF (Nat.lt_trans hml hVK) ?_
  rw [Nat.mul_comm (val bs) q] at hdm
  omega
/-- A round whose trial was too large by 1. -/
theorem red_wrong (ws bs : List Nat) (m h q : Nat) (hwl : ws.length = m) (hbl : bs.length = m) (hws : Digs ws) (hbs : Digs bs) (hV : 0 < val bs) (he : Est (val ws + 1000000000 ^ m * h) (val bs) q) (hgt : h < bor ws bs q m) :
    0 < q ∧ q - 1 = (val ws + 1000000000 ^ m * h) / val bs ∧ vs (sumAt ((List.range m).map (difAt ws bs q)) bs 1) m = (val ws + 1000000000 ^ m * h) % val bs := by
  have hs := bor_sum ws bs q m
  rw [List.take_of_length_le (show bs.length ≤ m by omega), List.take_of_length_le (show ws.length ≤ m by omega)] at hs
  have hVK : val bs < 1000000000 ^ m := by have := val_lt hbs; rwa [hbl] at this
  have hF := vs_lt _ m (difAt_digs ws bs q m hws)
  have hG := vs_lt _ m (sumAt_digs ((List.range m).map (difAt ws bs q)) bs 1 m)
  have hc := car_sum ((List.range m).map (difAt ws bs q)) bs 1 m
  rw [List.take_of_length_le (show bs.length ≤ m by omega), List.take_of_length_le (by simp), vs_range, Nat.one_mul] at hc
  obtain ⟨h1, h2, _⟩ := he
  have hdm := Nat.div_add_mod (val ws + 1000000000 ^ m * h) (val bs)
  have hml := Nat.mod_lt (val ws + 1000000000 ^ m * h) hV
  have hKb : 1000000000 ^ m * (h + 1) ≤ 1000000000 ^ m * bor ws bs q m := Nat.mul_le_mul_left _ hgt
  rw [Nat.mul_add, Nat.mul_one] at hKb
  generalize vs (difAt ws bs q) m = f at *
  generalize vs (sumAt ((List.range m).map (difAt ws bs q)) bs 1) m = s at *
  generalize car ((List.range m).map (difAt ws bs q)) bs 1 m = cc at *
  generalize bor ws bs q m = bo at *
  generalize 1000000000 ^ m = K at *
  have hgtq : (val ws + K * h) / val bs < q := by rw [Nat.div_lt_iff_lt_mul hV]; omega
  have hqe : q = (val ws + K * h) / val bs + 1 := by
    apply Nat.le_antisymm h2 hgtq
  have hq0 : 0 < q := Nat.lt_of_le_of_lt (Nat.zero_le _) hgtq
  have hq1 : q - 1 = (val ws + K * h) / val bs := by rw [hqe]; rfl
  refine ⟨hq0, hq1, ?_⟩
  rw [← hq1] at hdm
  have hqV : q * val bs = val bs * (q - 1) + val bs := by
    obtain ⟨p, rfl⟩ : ∃ p, q = p + 1 := ⟨q - 1, by omega⟩
    rw [Nat.add_mul, Nat.one_mul, Nat.add_sub_cancel, Nat.mul_comm]
  have hbh : K * bo = K * (bo - h) + K * h := by rw [← Nat.mul_add]; congr 1; omega
  refine uniq_mod (K := K) (a := cc) (b := bo - h) hG (Nat.lt_trans hml hVK) ?_
  omega
theorem upd_take (Y : List Nat) (o k : Nat) (F : Nat → Nat) (h : o + k ≤ Y.length) : (upd Y o k F).take o = Y.take o := by
  unfold upd
  rw [List.take_left' (by simp; omega)]
theorem upd_upd (Y : List Nat) (o k : Nat) (F G : Nat → Nat) (h : o + k ≤ Y.length) : upd (upd Y o k F) o k G = upd Y o k G := by
  show (upd Y o k F).take o ++ ((List.range k).map G ++ (upd Y o k F).drop (o + k)) = _
  rw [upd_take Y o k F h, drop_upd Y o k F h]
  rfl
theorem upd_win (Y : List Nat) (o k : Nat) (F : Nat → Nat) (h : o + k ≤ Y.length) : ((upd Y o k F).drop o).take k = (List.range k).map F := by
  unfold upd
  rw [List.drop_left' (by simp; omega), List.take_left' (by simp)]
/-- What holds between the rounds: the limbs from k on of the row are divided, QS are the limbs of the quotient, h lies above the rest. -/
structure Red (Y R QS : List Nat) (V k L m h : Nat) : Prop where
  len : R.length = Y.length
  digs : Digs R
  low : R.take k = Y.take k
  rem : val ((R.drop k).take (m - 1)) + 1000000000 ^ (m - 1) * h < V
  eqn : val ((Y.take L).drop k) = V * val QS + (val ((R.drop k).take (m - 1)) + 1000000000 ^ (m - 1) * h)
  qd : Digs QS
  ql : QS.length + k = L - m + 1
  hb : h < 1000000000
  top : k = L - m + 1 ∨ (k ≤ L - m ∧ h = R.getD (k + m - 1) 0)
theorem red_start (Y bs : List Nat) (L m : Nat) (hY : Digs Y) (hL : L ≤ Y.length) (hm : 0 < m) (hmL : m ≤ L) (hbl : bs.length = m) (hbs : Canon bs) : Red Y Y [] (val bs) (L - m + 1) L m 0 := by
  have e : (Y.take L).drop (L - m + 1) = (Y.drop (L - m + 1)).take (m - 1) := by
    rw [List.drop_take]
    congr 1
    omega
  refine ⟨rfl, hY, rfl, ?_, ?_, Digs.nil, by simp, by decide, .inl rfl⟩
  · have h1 := val_lt ((hY.drop (L - m + 1)).take (m - 1))
    have h2 := can_pos hbs (by omega)
    have h3 : ((Y.drop (L - m + 1)).take (m - 1)).length = m - 1 := by simp; omega
    rw [h3] at h1
    rw [hbl] at h2
    omega
  · rw [e]; simp [val]
/-- The window of the next round. -/
theorem red_window {Y R QS : List Nat} {V i L m h : Nat} (r : Red Y R QS V (i + 1) L m h) (hm : 0 < m) (hmL : m ≤ L) (hL : L ≤ Y.length) :
    ((R.drop i).take m).length = m ∧ Digs ((R.drop i).take m) ∧ ∃ y, Y.getD i 0 = y ∧ y < 1000000000 ∧ val ((R.drop i).take m) + 1000000000 ^ m * h = y + 1000000000 * (val ((R.drop (i + 1)).take (m - 1)) + 1000000000 ^ (m - 1) * h) ∧ val ((Y.take L).drop i) = y + 1000000000 * val ((Y.take L).drop (i + 1)) := by
  have hq := r.ql
  have hl := r.len
  have hiR : i < R.length := by omega
  have hiY : i < Y.length := by omega
  have hyR : R[i] = Y[i] := by
    have h1 : (R.take (i + 1))[i]? = (Y.take (i + 1))[i]? := by rw [r.low]
    rw [List.getElem?_take_of_lt (by omega), List.getElem?_take_of_lt (by omega), List.getElem?_eq_getElem hiR, List.getElem?_eq_getElem hiY] at h1
    simpa using h1
  obtain ⟨p, rfl⟩ : ∃ p, m = p + 1 := ⟨m - 1, by omega⟩
  refine ⟨by simp; omega, (r.digs.drop i).take _, Y[i], by simp [hiY], by rw [← hyR]; exact r.digs.get hiR, ?_, ?_⟩
  · rw [List.drop_eq_getElem_cons hiR, List.take_succ_cons, val, hyR, Nat.add_sub_cancel, Nat.pow_succ]
    generalize val ((R.drop (i + 1)).take p) = a
    generalize 1000000000 ^ p = b
    have : b * 1000000000 * h = 1000000000 * (b * h) := by rw [Nat.mul_comm b, Nat.mul_assoc]
    omega
  · have hit : i < (Y.take L).length := by simp; omega
    rw [val_drop_succ (Y.take L) i hit, List.getElem_take]
theorem red_next {Y R QS : List Nat} {V i L m h : Nat} (r : Red Y R QS V (i + 1) L m h) (hm : 0 < m) (hmL : m ≤ L) (hL : L ≤ Y.length) (hV : 0 < V) (hVm : V < 1000000000 ^ m) (G : Nat → Nat) (q : Nat) (hG : Digs ((List.range m).map G))
    (hq : q = (val ((R.drop i).take m) + 1000000000 ^ m * h) / V) (hv : vs G m = (val ((R.drop i).take m) + 1000000000 ^ m * h) % V) :
    Red Y (upd R i m G) (q :: QS) V i L m ((upd R i m G).getD (i + m - 1) 0) ∧ q < 1000000000 ∧ val ((R.drop i).take m) + 1000000000 ^ m * h < 1000000000 * V := by
  obtain ⟨hwl, hwd, y, hy, hyb, hU, hYi⟩ := red_window r hm hmL hL
  have hql := r.ql
  have hlen := r.len
  have him : i + m ≤ R.length := by omega
  have hrem := r.rem
  have hUlt : val ((R.drop i).take m) + 1000000000 ^ m * h < 1000000000 * V := by rw [hU]; omega
  have hqb : q < 1000000000 := by rw [hq, Nat.div_lt_iff_lt_mul hV]; exact hUlt
  have hul := upd_len R i m G him
  have hw := upd_win R i m G him
  have hdm := Nat.div_add_mod (val ((R.drop i).take m) + 1000000000 ^ m * h) V
  have hml := Nat.mod_lt (val ((R.drop i).take m) + 1000000000 ^ m * h) hV
  rw [← hq, ← hv] at hdm
  rw [← hv] at hml
  have hval : val (((upd R i m G).drop i).take (m - 1)) + 1000000000 ^ (m - 1) * (upd R i m G).getD (i + m - 1) 0 = vs G m := by
    rw [← vs_range, ← hw]
    obtain ⟨p, rfl⟩ : ∃ p, m = p + 1 := ⟨m - 1, by omega⟩
    have hpl : p < ((upd R i (p + 1) G).drop i).length := by rw [List.length_drop, hul]; omega
    rw [val_take_succ _ _ hpl, Nat.add_sub_cancel, List.getElem_drop]
    congr 2
    have : i + (p + 1) - 1 = i + p := by omega
    rw [this]
    simp [List.getD, List.getElem?_eq_getElem (show i + p < (upd R i (p + 1) G).length by omega)]
  refine ⟨⟨hul.trans hlen, digs_upd r.digs hG, ?_, ?_, ?_, ?_, by simp; omega, ?_, ?_⟩, hqb, hUlt⟩
  · rw [upd_take R i m G him]
    have h1 := congrArg (List.take i) r.low
    rw [List.take_take, List.take_take, Nat.min_eq_left (by omega)] at h1
    exact h1
  · rw [hval]; exact hml
  · rw [hval, hYi, r.eqn, val]
    rw [hU] at hdm
    rw [Nat.mul_add V]
    have e1 : V * (1000000000 * val QS) = 1000000000 * (V * val QS) := by rw [← Nat.mul_assoc, Nat.mul_comm V, Nat.mul_assoc]
    rw [e1]
    omega
  · intro d hd
    rcases List.mem_cons.mp hd with rfl | hd
    · exact hqb
    · exact r.qd d hd
  · exact (digs_upd r.digs hG).getD _
  · exact .inr ⟨by omega, rfl⟩
/-- At the end of the rounds. -/
theorem red_end {Y R QS : List Nat} {V L m h : Nat} (r : Red Y R QS V 0 L m h) (hm : 0 < m) (hmL : m ≤ L) (hL : L ≤ Y.length) : val QS = val (Y.take L) / V ∧ val (R.take m) = val (Y.take L) % V ∧ QS.length = L - m + 1 := by
  have hlen := r.len
  have hh : h = R.getD (m - 1) 0 := by
    rcases r.top with h1 | ⟨_, h1⟩
    · omega
    · rw [h1]; congr 1; omega
  obtain ⟨p, rfl⟩ : ∃ p, m = p + 1 := ⟨m - 1, by omega⟩
  have hpl : p < R.length := by omega
  have e : val (R.take (p + 1)) = val (R.take p) + 1000000000 ^ p * h := by
    rw [val_take_succ R p hpl, hh, Nat.add_sub_cancel]
    simp [List.getD, List.getElem?_eq_getElem hpl]
  have hr := r.rem
  have he := r.eqn
  simp only [List.drop_zero, Nat.add_sub_cancel] at hr he
  rw [← e] at hr he
  have hV : 0 < V := Nat.lt_of_le_of_lt (Nat.zero_le _) hr
  rw [he]
  refine ⟨?_, ?_, by have := r.ql; omega⟩
  · rw [Nat.mul_add_div hV, Nat.div_eq_of_lt hr, Nat.add_zero]
  · rw [Nat.mul_add_mod, Nat.mod_eq_of_lt hr]
end Go.Proofs.Ytodoiekbjjiocaa
namespace Go.Proofs.Ytodoiekbjjiocaa
open Go.RowKit Nt
set_option linter.unusedVariables false

/-- Between the two worlds nothing has turned but two blocks. -/
structure Leaves (w w' : World) (g1 g2 : Nat) : Prop where
  os : w'.os = w.os
  tape : w'.tape = w.tape
  output : w'.output = w.output
  size : w.heap.size ≤ w'.heap.size
  block : ∀ k, k < w.heap.size → k ≠ g1 → k ≠ g2 → w'.heap[k]? = w.heap[k]?
section
variable {w w' w2 : World} {g1 g2 : Nat}
theorem Leaves.refl (w : World) (g1 g2 : Nat) : Leaves w w g1 g2 := ⟨rfl, rfl, rfl, Nat.le_refl _, fun _ _ _ _ => rfl⟩
theorem Leaves.drewN (h : Leaves w w' g1 g2) (k : Nat) : Leaves w (w'.drewN k) g1 g2 := ⟨h.os, h.tape, h.output, h.size, h.block⟩
theorem Leaves.grown1 (h : Leaves w w' g1 g2) (hg : w'.grownBy w2 (some g1)) : Leaves w w2 g1 g2 :=
  ⟨hg.os.trans h.os, hg.tape.trans h.tape, hg.output.trans h.output, Nat.le_trans h.size hg.size, fun k hk n1 n2 => (hg.block k (Nat.lt_of_lt_of_le hk h.size) (by simpa using n1)).trans (h.block k hk n1 n2)⟩
theorem Leaves.grown2 (h : Leaves w w' g1 g2) (hg : w'.grownBy w2 (some g2)) : Leaves w w2 g1 g2 :=
  ⟨hg.os.trans h.os, hg.tape.trans h.tape, hg.output.trans h.output, Nat.le_trans h.size hg.size, fun k hk n1 n2 => (hg.block k (Nat.lt_of_lt_of_le hk h.size) (by simpa using n2)).trans (h.block k hk n1 n2)⟩
theorem Leaves.below {B : Nat} {a : World} (h : Leaves w w' g1 g2) (hb : Below B a w) (hB : B ≤ w.heap.size) (h1 : B ≤ g1) (h2 : B ≤ g2) : Below B a w' :=
  ⟨h.os.trans hb.os, h.tape.trans hb.tape, h.output.trans hb.output, Nat.le_trans hb.size h.size, fun k hk => (h.block k (Nat.lt_of_lt_of_le hk hB) (by omega) (by omega)).trans (hb.block k hk)⟩
theorem VRow.leaves {A : Option Addr} {n : Nat} {xs : List Value} (h : VRow w A n xs) (hl : Leaves w w' g1 g2) (hne : 0 < n → ∀ a : Addr, A = some a → a.block ≠ g1 ∧ a.block ≠ g2) : VRow w' A n xs := by
  refine ⟨h.1, fun hn => ?_⟩
  obtain ⟨g, o, rfl, hlt, hc⟩ := h.2 hn
  have h2 := hne hn _ rfl
  refine ⟨g, o, rfl, Nat.lt_of_lt_of_le hlt hl.size, fun k hk => ?_⟩
  rw [World.cell?_of_block (w := w) (a := ⟨g, o + k, none⟩) (hl.block g hlt h2.1 h2.2)]
  exact hc k hk
theorem Whole.leaves {base g : Nat} {e : TypeId} {ys : List Value} (h : Whole w base g e ys) (hl : Leaves w w' g1 g2) (h1 : g ≠ g1) (h2 : g ≠ g2) : Whole w' base g e ys :=
  whole_of h.lt.1 ((hl.block g h.lt.2 h1 h2).trans (whole_heap h)) h.len_le
end
/-- The quotient's row behind the rounds: the limbs QS from place k on. -/
def qrow (Z QS : List Nat) (k : Nat) : List Nat := Z.take k ++ (QS ++ Z.drop (k + QS.length))
theorem qrow_len (Z QS : List Nat) (k : Nat) (h : k + QS.length ≤ Z.length) : (qrow Z QS k).length = Z.length := by simp [qrow]; omega
theorem qrow_nil (Z : List Nat) (k : Nat) : qrow Z [] k = Z := by simp [qrow]
theorem qrow_set (Z QS : List Nat) (i q : Nat) (h : i + 1 + QS.length ≤ Z.length) : (qrow Z QS (i + 1)).set i q = qrow Z (q :: QS) i := by
  unfold qrow
  rw [List.set_append_left _ _ (by simp; omega), List.take_add_one, List.getElem?_eq_getElem (by omega), Option.toList_some, List.set_append_right _ _ (by simp; omega)]
  have e : i - (Z.take i).length = 0 := by simp; omega
  rw [e]
  simp [List.append_assoc]
  congr 1
  omega

end Go.Proofs.Ytodoiekbjjiocaa
namespace Go.Proofs.Ytodoiekbjjiocaa
open Go.RowKit Nt
set_option linter.unusedVariables false

/-- One round of a division by a small number. -/
theorem small_step (x d X Q r : Nat) (hd : 0 < d) (h : X = d * Q + r) : (x + 1000000000 * X) / d = (r * 1000000000 + x) / d + 1000000000 * Q ∧ (x + 1000000000 * X) % d = (r * 1000000000 + x) % d := by
  have e : x + 1000000000 * X = d * (1000000000 * Q) + (r * 1000000000 + x) := by
    have : d * (1000000000 * Q) = 1000000000 * (d * Q) := by rw [← Nat.mul_assoc, Nat.mul_comm d, Nat.mul_assoc]
    omega
  rw [e, Nat.mul_add_div hd, Nat.mul_add_mod]
  exact ⟨by rw [Nat.add_comm], rfl⟩
end Go.Proofs.Ytodoiekbjjiocaa
namespace Go.Proofs.Ytodoiekbjjiocaa
open Go.RowKit Nt
set_option linter.unusedVariables false

/-- 'append' of whatever slice reads as news to a row of one's own. -/
theorem wpList_append_row {P : Program} {w : World} {ops : Array Oper} {rest : List Oper} {o : Oper} {a : Act} {Q : Exit → Act → World → Prop} (hgd : o.guard = none) (s x : Operand) (t : TypeId)
    (ho : o.op = .call { callee := .builtin .append, args := #[s, x], argTypes := #[t, t] })
    (base : Nat) (e : TypeId) (i : TypeInfo) (z : Value) (bytes : Nat) (ht : P.underlying t = some (.slice e)) (hi : P.info? e = some i) (hz : i.zero = some z)
    (hsize : i.size = 1) (hby : i.bytes = bytes) (hzs : z.cells.size = 1)
    (v : Value) (n : Nat) (xs : List Value) (hs : a.eval s = v) (hown : w.ownsRow base e 1 v n xs)
    (A : Option Addr) (m c : Nat) (news : List Value) (hx : a.eval x = .slice A m c) (hrow : VRow w A m news) (hnil : A = none → c = 0) (h1 : ∀ u ∈ news, u.oneCell' = true)
    (h63 : n + m ≤ maxLen) (hbytes : (n + m) * bytes ≤ 140737488355328) (hbase : base ≤ w.heap.size)
    (h : ∀ v' w', w'.ownsRow base e 1 v' (n + m) (xs ++ news) → w.grownBy w' v.ownBlock → wpList P ops Q rest (a.put o.dst v') w') : wpList P ops Q (o :: rest) a w := by
  cases A with
  | none =>
    have h0 : m = 0 := by
      rcases Nat.eq_zero_or_pos m with h0 | h0
      · exact h0
      · obtain ⟨g, o, e, _⟩ := hrow.2 h0; simp at e
    subst h0
    have hc := hnil rfl
    subst hc
    have hn := List.eq_nil_of_length_eq_zero hrow.1
    subst hn
    refine wpList_append_own_none hgd s x t ho base e i 1 ht hi v n xs hs hown hx ?_
    exact h v w (by simpa using hown) (World.grownBy.refl _ _)
  | some ad =>
    refine wpList_append_own w hgd s x t ho base e i z 1 bytes ht hi hz hsize hby hzs (by decide) v n xs hs hown ad m c news hx (by have := hrow.1; omega) ?_ h1 h63 hbytes hbase (fun v' w' a1 a2 _ => h v' w' a1 a2)
    intro j u hj
    have hjl : j < m := by have h2 := (List.getElem?_eq_some_iff.mp hj).1; have := hrow.1; omega
    obtain ⟨g, o, e, hlt, hc⟩ := hrow.2 (by omega)
    obtain rfl : ad = ⟨g, o, none⟩ := by simpa using e
    rw [add_off, hc j hjl]
    exact hj
/-- What NatDiv answers. -/
def quoN (xs ys : List Int) : List Nat := if okI xs = true ∧ okI ys = true then dig (val (toN xs) / val (toN ys)) else []
def remN (xs ys : List Int) : List Nat := if okI xs = true ∧ okI ys = true ∧ val (toN ys) ≠ 0 then dig (val (toN xs) % val (toN ys)) else []
theorem divN_no {xs ys : List Int} (h : okI xs = false ∨ okI ys = false) : quoN xs ys = [] ∧ remN xs ys = [] := by
  constructor
  · rw [quoN, if_neg (by rintro ⟨h1, h2⟩; rcases h with h | h <;> simp_all)]
  · rw [remN, if_neg (by rintro ⟨h1, h2, _⟩; rcases h with h | h <;> simp_all)]
theorem divN_yes {xs ys : List Int} (h1 : okI xs = true) (h2 : okI ys = true) : quoN xs ys = dig (val (toN xs) / val (toN ys)) ∧ remN xs ys = if val (toN ys) ≠ 0 then dig (val (toN xs) % val (toN ys)) else [] := by
  constructor
  · rw [quoN, if_pos ⟨h1, h2⟩]
  · simp [remN, h1, h2]
theorem quoN_len (xs ys : List Int) : (quoN xs ys).length ≤ 60 := by
  unfold quoN
  split
  · rename_i h
    obtain ⟨_, h1, h2⟩ := okI_nats h.1
    refine dig_len (Nat.lt_of_le_of_lt (Nat.div_le_self _ _) (Nat.lt_of_lt_of_le (val_lt h1.1) (Nat.pow_le_pow_right (by decide) h2)))
  · simp
theorem remN_len (xs ys : List Int) : (remN xs ys).length ≤ 60 := by
  unfold remN
  split
  · rename_i h
    obtain ⟨_, h1, h2⟩ := okI_nats h.1
    refine dig_len (Nat.lt_of_le_of_lt (Nat.mod_le _ _) (Nat.lt_of_lt_of_le (val_lt h1.1) (Nat.pow_le_pow_right (by decide) h2)))
  · simp
/-- What a function leaves that returns two rows in new memory. -/
def OwnR2 (e : TypeId) (xs ys : List Value) (w : World) (en : Ending) (w' : World) : Prop :=
  ∃ v0 v1, en = .returned (.tuple #[v0, v1]) ∧ OwnV w' w.heap.size e v0 xs ∧ OwnV w' w.heap.size e v1 ys ∧ (v0.ownBlock = none ∨ v0.ownBlock ≠ v1.ownBlock) ∧ (v1.ownBlock = none ∨ v1.ownBlock ≠ v0.ownBlock) ∧ Below w.heap.size w w'
theorem own2_nil (e : TypeId) (w w' : World) (h : Below w.heap.size w w') : OwnR2 e [] [] w (.returned (.tuple #[.slice none 0 0, .slice none 0 0])) w' :=
  ⟨_, _, rfl, OwnV.nil _ _ _, OwnV.nil _ _ _, .inl rfl, .inl rfl, h⟩
theorem qrow_zero (n : Nat) (QS : List Nat) (i : Nat) (h : i < n) : qrow (List.replicate n 0) (0 :: QS) i = qrow (List.replicate n 0) QS (i + 1) := by
  unfold qrow
  rw [List.take_replicate, List.take_replicate, Nat.min_eq_left (by omega), Nat.min_eq_left (by omega), List.replicate_succ' (n := i), List.drop_replicate, List.drop_replicate, List.append_assoc]
  have e : n - (i + (0 :: QS).length) = n - (i + 1 + QS.length) := by simp; omega
  rw [e]
  rfl
theorem OwnV.ne_of_lt {w : World} {base g : Nat} {e : TypeId} {v : Value} {xs : List Value} (h : OwnV w base e v xs) (hg : g < base) : v.ownBlock = none ∨ v.ownBlock ≠ some g := by
  cases hv : v.ownBlock with
  | none => exact .inl rfl
  | some k =>
    refine .inr fun e => ?_
    have := (h.lt k hv).1
    have e2 : k = g := Option.some.inj e
    omega
theorem qrow_all (n : Nat) (QS : List Nat) (h : QS.length ≤ n) : Digs QS → Digs (qrow (List.replicate n 0) QS 0) ∧ val (qrow (List.replicate n 0) QS 0) = val QS ∧ (qrow (List.replicate n 0) QS 0).length = n := by
  intro hd
  unfold qrow
  rw [List.take_zero, List.nil_append, List.drop_replicate, Nat.zero_add]
  exact ⟨digs_pad hd _, val_pad _ _, by simp; omega⟩
end Go.Proofs.Ytodoiekbjjiocaa
namespace Go.Proofs.Ytodoiekbjjiocaa
open Go.RowKit Nt
set_option linter.unusedVariables false

/-- The number that a row of limbs reads as, wherever it lies. -/
def rowVal (w : World) : Value → Nat
  | .slice (some ⟨g, o, none⟩) n _ => vs (fun k => match w.cell? ⟨g, o + k, none⟩ with | some (.int _ z) => z.toNat | _ => 0) n
  | _ => 0
theorem vs_congr (f g : Nat → Nat) (n : Nat) (h : ∀ k, k < n → f k = g k) : vs f n = vs g n := by
  induction n with
  | zero => rfl
  | succ n ih => rw [vs, vs, ih (fun k hk => h k (by omega)), h n (by omega)]
theorem rowVal_of {w : World} {A : Option Addr} {n c : Nat} {ds : List Nat} (h : VRow w A n (nats ds)) : rowVal w (.slice A n c) = val ds := by
  have hl : ds.length = n := by simpa [nats_len] using h.1
  by_cases h0 : n = 0
  · subst h0
    have e := List.eq_nil_of_length_eq_zero hl
    subst e
    cases A with
    | none => rfl
    | some a => obtain ⟨g, o, s⟩ := a; cases s <;> rfl
  · obtain ⟨g, o, rfl, hlt, hc⟩ := h.2 (by omega)
    have e : val ds = vs (fun j => ds.getD j 0) n := by rw [vs_all ds n (by omega)]
    rw [e]
    refine vs_congr _ _ n fun k hk => ?_
    have hk2 : k < ds.length := by omega
    rw [hc k hk]
    simp [nats, ints, hk2]
theorem gcd_step (x y : Nat) : Nat.gcd y (x % y) = Nat.gcd x y := by
  rw [Nat.gcd_comm y (x % y), ← Nat.gcd_rec, Nat.gcd_comm]
/-- What NatGcd answers. -/
def gcdN (xs ys : List Int) : List Nat := if okI xs = true ∧ okI ys = true then dig (Nat.gcd (val (toN xs)) (val (toN ys))) else []
theorem gcdN_yes {xs ys : List Int} (h1 : okI xs = true) (h2 : okI ys = true) : gcdN xs ys = dig (Nat.gcd (val (toN xs)) (val (toN ys))) := by rw [gcdN, if_pos ⟨h1, h2⟩]
theorem gcdN_no {xs ys : List Int} (h : okI xs = false ∨ okI ys = false) : gcdN xs ys = [] := by rw [gcdN, if_neg (by rintro ⟨h1, h2⟩; rcases h with h | h <;> simp_all)]
theorem gcd_lt {a b k : Nat} (ha : a < 1000000000 ^ k) (hb : b < 1000000000 ^ k) : Nat.gcd a b < 1000000000 ^ k := by
  rcases Nat.eq_zero_or_pos a with h | h
  · subst h; rw [Nat.gcd_zero_left]; exact hb
  · exact Nat.lt_of_le_of_lt (Nat.gcd_le_left b h) ha
theorem gcdN_len (xs ys : List Int) : (gcdN xs ys).length ≤ 60 := by
  unfold gcdN
  split
  · rename_i h
    obtain ⟨_, h1, h2⟩ := okI_nats h.1
    obtain ⟨_, h3, h4⟩ := okI_nats h.2
    exact dig_len (gcd_lt (Nat.lt_of_lt_of_le (val_lt h1.1) (Nat.pow_le_pow_right (by decide) h2)) (Nat.lt_of_lt_of_le (val_lt h3.1) (Nat.pow_le_pow_right (by decide) h4)))
  · simp
theorem intI_dig (X : Nat) (h : X < 1000000000 ^ 2) : intI ((dig X).map fun d : Nat => (d : Int)) = (X : Int) ∧ fitsI ((dig X).map fun d : Nat => (d : Int)) = true := by
  have hl : (dig X).length ≤ 60 := Nat.le_trans (dig_len h) (by decide)
  have hf : fitsI ((dig X).map fun d : Nat => (d : Int)) = true := by
    rw [fits_iff, toN_nats, val_dig]
    exact ⟨okI_of_nats (dig_can X) hl, by omega⟩
  refine ⟨?_, hf⟩
  rw [← int_yes hf, toN_nats, val_dig]
end Go.Proofs.Ytodoiekbjjiocaa
