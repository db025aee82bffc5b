/- Numbers behind the program's long division: one round, and what holds between rounds. Conditions: none. -/
import Derived.Test.YtdilbhkdkppodaaRow
import Derived.Test.YtdilbhkdkppodaaEstimate
import Derived.Test.YtdilbhkdkppodaaNatMul
namespace Go.Proofs.Ytdilbhkdkppodaa
open Go.RowKit Nt
set_option linter.unusedVariables false

theorem uniq_mod {K x y a b : Nat} (hx : x < K) (hy : y < K) (h : x + K * a = y + K * b) : x = y := by
  have e := congrArg (· % K) h
  simp only [Nat.add_mul_mod_self_left, Nat.mod_eq_of_lt hx, Nat.mod_eq_of_lt hy] at e
  exact e
theorem vs_lt (g : Nat → Nat) (m : Nat) (h : Digs ((List.range m).map g)) : vs g m < 1000000000 ^ m := by
  have h1 := val_lt h
  rw [vs_range, List.length_map, List.length_range] at h1
  exact h1
/-- A round whose trial was right. -/
theorem red_right (ws bs : List Nat) (m h q : Nat) (hwl : ws.length = m) (hbl : bs.length = m) (hws : Digs ws) (hbs : Digs bs) (hV : 0 < val bs) (he : Est (val ws + 1000000000 ^ m * h) (val bs) q) (hle : bor ws bs q m ≤ h) :
    q = (val ws + 1000000000 ^ m * h) / val bs ∧ vs (difAt ws bs q) m = (val ws + 1000000000 ^ m * h) % val bs := by
  have hs := bor_sum ws bs q m
  rw [List.take_of_length_le (show bs.length ≤ m by omega), List.take_of_length_le (show ws.length ≤ m by omega)] at hs
  have hVK : val bs < 1000000000 ^ m := by have := val_lt hbs; rwa [hbl] at this
  have hF := vs_lt _ m (difAt_digs ws bs q m hws)
  have hK := pow_pos m
  obtain ⟨h1, _, _⟩ := he
  have hdm := Nat.div_add_mod (val ws + 1000000000 ^ m * h) (val bs)
  have hml := Nat.mod_lt (val ws + 1000000000 ^ m * h) hV
  have hKb : 1000000000 ^ m * bor ws bs q m ≤ 1000000000 ^ m * h := Nat.mul_le_mul_left _ hle
  have hq : q = (val ws + 1000000000 ^ m * h) / val bs := by
    apply Nat.le_antisymm _ h1
    rw [Nat.le_div_iff_mul_le hV]
    omega
  refine ⟨hq, ?_⟩
  rw [← hq] at hdm
  refine uniq_mod (K := 1000000000 ^ m) (a := h) (b := bor ws bs q m) hF (Nat.lt_trans hml hVK) ?_
  rw [Nat.mul_comm (val bs) q] at hdm
  omega
/-- A round whose trial was too large by 1. -/
theorem red_wrong (ws bs : List Nat) (m h q : Nat) (hwl : ws.length = m) (hbl : bs.length = m) (hws : Digs ws) (hbs : Digs bs) (hV : 0 < val bs) (he : Est (val ws + 1000000000 ^ m * h) (val bs) q) (hgt : h < bor ws bs q m) :
    0 < q ∧ q - 1 = (val ws + 1000000000 ^ m * h) / val bs ∧ vs (sumAt ((List.range m).map (difAt ws bs q)) bs 1) m = (val ws + 1000000000 ^ m * h) % val bs := by
  have hs := bor_sum ws bs q m
  rw [List.take_of_length_le (show bs.length ≤ m by omega), List.take_of_length_le (show ws.length ≤ m by omega)] at hs
  have hVK : val bs < 1000000000 ^ m := by have := val_lt hbs; rwa [hbl] at this
  have hF := vs_lt _ m (difAt_digs ws bs q m hws)
  have hG := vs_lt _ m (sumAt_digs ((List.range m).map (difAt ws bs q)) bs 1 m)
  have hc := car_sum ((List.range m).map (difAt ws bs q)) bs 1 m
  rw [List.take_of_length_le (show bs.length ≤ m by omega), List.take_of_length_le (by simp), vs_range, Nat.one_mul] at hc
  obtain ⟨h1, h2, _⟩ := he
  have hdm := Nat.div_add_mod (val ws + 1000000000 ^ m * h) (val bs)
  have hml := Nat.mod_lt (val ws + 1000000000 ^ m * h) hV
  have hKb : 1000000000 ^ m * (h + 1) ≤ 1000000000 ^ m * bor ws bs q m := Nat.mul_le_mul_left _ hgt
  rw [Nat.mul_add, Nat.mul_one] at hKb
  generalize vs (difAt ws bs q) m = f at *
  generalize vs (sumAt ((List.range m).map (difAt ws bs q)) bs 1) m = s at *
  generalize car ((List.range m).map (difAt ws bs q)) bs 1 m = cc at *
  generalize bor ws bs q m = bo at *
  generalize 1000000000 ^ m = K at *
  have hgtq : (val ws + K * h) / val bs < q := by rw [Nat.div_lt_iff_lt_mul hV]; omega
  have hqe : q = (val ws + K * h) / val bs + 1 := by
    apply Nat.le_antisymm h2 hgtq
  have hq0 : 0 < q := Nat.lt_of_le_of_lt (Nat.zero_le _) hgtq
  have hq1 : q - 1 = (val ws + K * h) / val bs := by rw [hqe]; rfl
  refine ⟨hq0, hq1, ?_⟩
  rw [← hq1] at hdm
  have hqV : q * val bs = val bs * (q - 1) + val bs := by
    obtain ⟨p, rfl⟩ : ∃ p, q = p + 1 := ⟨q - 1, by omega⟩
    rw [Nat.add_mul, Nat.one_mul, Nat.add_sub_cancel, Nat.mul_comm]
  have hbh : K * bo = K * (bo - h) + K * h := by rw [← Nat.mul_add]; congr 1; omega
  refine uniq_mod (K := K) (a := cc) (b := bo - h) hG (Nat.lt_trans hml hVK) ?_
  omega
theorem upd_take (Y : List Nat) (o k : Nat) (F : Nat → Nat) (h : o + k ≤ Y.length) : (upd Y o k F).take o = Y.take o := by
  unfold upd
  rw [List.take_left' (by simp; omega)]
theorem upd_upd (Y : List Nat) (o k : Nat) (F G : Nat → Nat) (h : o + k ≤ Y.length) : upd (upd Y o k F) o k G = upd Y o k G := by
  show (upd Y o k F).take o ++ ((List.range k).map G ++ (upd Y o k F).drop (o + k)) = _
  rw [upd_take Y o k F h, drop_upd Y o k F h]
  rfl
theorem upd_win (Y : List Nat) (o k : Nat) (F : Nat → Nat) (h : o + k ≤ Y.length) : ((upd Y o k F).drop o).take k = (List.range k).map F := by
  unfold upd
  rw [List.drop_left' (by simp; omega), List.take_left' (by simp)]
/-- What holds between the rounds: the limbs from k on of the row are divided, QS are the limbs of the quotient, h lies above the rest. -/
structure Red (Y R QS : List Nat) (V k L m h : Nat) : Prop where
  len : R.length = Y.length
  digs : Digs R
  low : R.take k = Y.take k
  rem : val ((R.drop k).take (m - 1)) + 1000000000 ^ (m - 1) * h < V
  eqn : val ((Y.take L).drop k) = V * val QS + (val ((R.drop k).take (m - 1)) + 1000000000 ^ (m - 1) * h)
  qd : Digs QS
  ql : QS.length + k = L - m + 1
  hb : h < 1000000000
  top : k = L - m + 1 ∨ (k ≤ L - m ∧ h = R.getD (k + m - 1) 0)
theorem red_start (Y bs : List Nat) (L m : Nat) (hY : Digs Y) (hL : L ≤ Y.length) (hm : 0 < m) (hmL : m ≤ L) (hbl : bs.length = m) (hbs : Canon bs) : Red Y Y [] (val bs) (L - m + 1) L m 0 := by
  have e : (Y.take L).drop (L - m + 1) = (Y.drop (L - m + 1)).take (m - 1) := by
    rw [List.drop_take]
    congr 1
    omega
  refine ⟨rfl, hY, rfl, ?_, ?_, Digs.nil, by simp, by decide, .inl rfl⟩
  · have h1 := val_lt ((hY.drop (L - m + 1)).take (m - 1))
    have h2 := can_pos hbs (by omega)
    have h3 : ((Y.drop (L - m + 1)).take (m - 1)).length = m - 1 := by simp; omega
    rw [h3] at h1
    rw [hbl] at h2
    omega
  · rw [e]; simp [val]
/-- The window of the next round. -/
theorem red_window {Y R QS : List Nat} {V i L m h : Nat} (r : Red Y R QS V (i + 1) L m h) (hm : 0 < m) (hmL : m ≤ L) (hL : L ≤ Y.length) :
    ((R.drop i).take m).length = m ∧ Digs ((R.drop i).take m) ∧ ∃ y, Y.getD i 0 = y ∧ y < 1000000000 ∧ val ((R.drop i).take m) + 1000000000 ^ m * h = y + 1000000000 * (val ((R.drop (i + 1)).take (m - 1)) + 1000000000 ^ (m - 1) * h) ∧ val ((Y.take L).drop i) = y + 1000000000 * val ((Y.take L).drop (i + 1)) := by
  have hq := r.ql
  have hl := r.len
  have hiR : i < R.length := by omega
  have hiY : i < Y.length := by omega
  have hyR : R[i] = Y[i] := by
    have h1 : (R.take (i + 1))[i]? = (Y.take (i + 1))[i]? := by rw [r.low]
    rw [List.getElem?_take_of_lt (by omega), List.getElem?_take_of_lt (by omega), List.getElem?_eq_getElem hiR, List.getElem?_eq_getElem hiY] at h1
    simpa using h1
  obtain ⟨p, rfl⟩ : ∃ p, m = p + 1 := ⟨m - 1, by omega⟩
  refine ⟨by simp; omega, (r.digs.drop i).take _, Y[i], by simp [hiY], by rw [← hyR]; exact r.digs.get hiR, ?_, ?_⟩
  · rw [List.drop_eq_getElem_cons hiR, List.take_succ_cons, val, hyR, Nat.add_sub_cancel, Nat.pow_succ]
    generalize val ((R.drop (i + 1)).take p) = a
    generalize 1000000000 ^ p = b
    have : b * 1000000000 * h = 1000000000 * (b * h) := by rw [Nat.mul_comm b, Nat.mul_assoc]
    omega
  · have hit : i < (Y.take L).length := by simp; omega
    rw [val_drop_succ (Y.take L) i hit, List.getElem_take]
theorem red_next {Y R QS : List Nat} {V i L m h : Nat} (r : Red Y R QS V (i + 1) L m h) (hm : 0 < m) (hmL : m ≤ L) (hL : L ≤ Y.length) (hV : 0 < V) (hVm : V < 1000000000 ^ m) (G : Nat → Nat) (q : Nat) (hG : Digs ((List.range m).map G))
    (hq : q = (val ((R.drop i).take m) + 1000000000 ^ m * h) / V) (hv : vs G m = (val ((R.drop i).take m) + 1000000000 ^ m * h) % V) :
    Red Y (upd R i m G) (q :: QS) V i L m ((upd R i m G).getD (i + m - 1) 0) ∧ q < 1000000000 ∧ val ((R.drop i).take m) + 1000000000 ^ m * h < 1000000000 * V := by
  obtain ⟨hwl, hwd, y, hy, hyb, hU, hYi⟩ := red_window r hm hmL hL
  have hql := r.ql
  have hlen := r.len
  have him : i + m ≤ R.length := by omega
  have hrem := r.rem
  have hUlt : val ((R.drop i).take m) + 1000000000 ^ m * h < 1000000000 * V := by rw [hU]; omega
  have hqb : q < 1000000000 := by rw [hq, Nat.div_lt_iff_lt_mul hV]; exact hUlt
  have hul := upd_len R i m G him
  have hw := upd_win R i m G him
  have hdm := Nat.div_add_mod (val ((R.drop i).take m) + 1000000000 ^ m * h) V
  have hml := Nat.mod_lt (val ((R.drop i).take m) + 1000000000 ^ m * h) hV
  rw [← hq, ← hv] at hdm
  rw [← hv] at hml
  have hval : val (((upd R i m G).drop i).take (m - 1)) + 1000000000 ^ (m - 1) * (upd R i m G).getD (i + m - 1) 0 = vs G m := by
    rw [← vs_range, ← hw]
    obtain ⟨p, rfl⟩ : ∃ p, m = p + 1 := ⟨m - 1, by omega⟩
    have hpl : p < ((upd R i (p + 1) G).drop i).length := by rw [List.length_drop, hul]; omega
    rw [val_take_succ _ _ hpl, Nat.add_sub_cancel, List.getElem_drop]
    congr 2
    have : i + (p + 1) - 1 = i + p := by omega
    rw [this]
    simp [List.getD, List.getElem?_eq_getElem (show i + p < (upd R i (p + 1) G).length by omega)]
  refine ⟨⟨hul.trans hlen, digs_upd r.digs hG, ?_, ?_, ?_, ?_, by simp; omega, ?_, ?_⟩, hqb, hUlt⟩
  · rw [upd_take R i m G him]
    have h1 := congrArg (List.take i) r.low
    rw [List.take_take, List.take_take, Nat.min_eq_left (by omega)] at h1
    exact h1
  · rw [hval]; exact hml
  · rw [hval, hYi, r.eqn, val]
    rw [hU] at hdm
    rw [Nat.mul_add V]
    have e1 : V * (1000000000 * val QS) = 1000000000 * (V * val QS) := by rw [← Nat.mul_assoc, Nat.mul_comm V, Nat.mul_assoc]
    rw [e1]
    omega
  · intro d hd
    rcases List.mem_cons.mp hd with rfl | hd
    · exact hqb
    · exact r.qd d hd
  · exact (digs_upd r.digs hG).getD _
  · exact .inr ⟨by omega, rfl⟩
/-- At the end of the rounds. -/
theorem red_end {Y R QS : List Nat} {V L m h : Nat} (r : Red Y R QS V 0 L m h) (hm : 0 < m) (hmL : m ≤ L) (hL : L ≤ Y.length) : val QS = val (Y.take L) / V ∧ val (R.take m) = val (Y.take L) % V ∧ QS.length = L - m + 1 := by
  have hlen := r.len
  have hh : h = R.getD (m - 1) 0 := by
    rcases r.top with h1 | ⟨_, h1⟩
    · omega
    · rw [h1]; congr 1; omega
  obtain ⟨p, rfl⟩ : ∃ p, m = p + 1 := ⟨m - 1, by omega⟩
  have hpl : p < R.length := by omega
  have e : val (R.take (p + 1)) = val (R.take p) + 1000000000 ^ p * h := by
    rw [val_take_succ R p hpl, hh, Nat.add_sub_cancel]
    simp [List.getD, List.getElem?_eq_getElem hpl]
  have hr := r.rem
  have he := r.eqn
  simp only [List.drop_zero, Nat.add_sub_cancel] at hr he
  rw [← e] at hr he
  have hV : 0 < V := Nat.lt_of_le_of_lt (Nat.zero_le _) hr
  rw [he]
  refine ⟨?_, ?_, by have := r.ql; omega⟩
  · rw [Nat.mul_add_div hV, Nat.div_eq_of_lt hr, Nat.add_zero]
  · rw [Nat.mul_add_mod, Nat.mod_eq_of_lt hr]
end Go.Proofs.Ytdilbhkdkppodaa
