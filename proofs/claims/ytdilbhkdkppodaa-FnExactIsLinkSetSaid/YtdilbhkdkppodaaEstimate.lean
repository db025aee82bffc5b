/- The trial quotient of the program's division: contract of estimate. Conditions: none. -/
import Derived.Test.YtdilbhkdkppodaaProg
import Derived.Test.YtdilbhkdkppodaaDiv64
import Derived.Test.YtdilbhkdkppodaaNatAdd
namespace Go.Proofs.Ytdilbhkdkppodaa
open Go.RowKit Nt
set_option linter.unusedVariables false

/-- Three leading limbs by two: the quotient, or 1 more. -/
theorem est_bounds (P k u3 u0 v2 v0 : Nat) (hu : u0 < k) (hv : v0 < k) (hP : P ≤ v2) (hP0 : 0 < P) (hlt : u0 + k * u3 < P * (v0 + k * v2)) :
    (u0 + k * u3) / (v0 + k * v2) ≤ u3 / v2 ∧ u3 / v2 ≤ (u0 + k * u3) / (v0 + k * v2) + 1 ∧ u3 / v2 ≤ P := by
  have hk : 0 < k := by omega
  have hv2 : 0 < v2 := by omega
  have hV : 0 < v0 + k * v2 := Nat.lt_of_lt_of_le (Nat.mul_pos hk hv2) (Nat.le_add_left _ _)
  have hQ : (u0 + k * u3) / (v0 + k * v2) < P := by rw [Nat.div_lt_iff_lt_mul hV]; exact hlt
  have hlow := Nat.div_mul_le_self (u0 + k * u3) (v0 + k * v2)
  have hup := Nat.lt_div_mul_add (a := u0 + k * u3) hV
  generalize (u0 + k * u3) / (v0 + k * v2) = Q at *
  have h1 : Q ≤ u3 / v2 := by
    rw [Nat.le_div_iff_mul_le hv2]
    rcases Nat.lt_or_ge u3 (Q * v2) with h | h
    · exfalso
      have a1 : k * (u3 + 1) ≤ k * (Q * v2) := Nat.mul_le_mul_left k h
      have a2 : k * (Q * v2) ≤ Q * (v0 + k * v2) := by
        rw [Nat.mul_add, ← Nat.mul_assoc, ← Nat.mul_assoc, Nat.mul_comm k Q]; exact Nat.le_add_left _ _
      rw [Nat.mul_add, Nat.mul_one] at a1
      omega
    · exact h
  have h2 : u3 / v2 ≤ Q + 1 := by
    rcases Nat.lt_or_ge (Q + 1) (u3 / v2) with h | h
    · exfalso
      have b1 : (Q + 2) * v2 ≤ u3 := Nat.le_trans (Nat.mul_le_mul_right _ h) (Nat.div_mul_le_self u3 v2)
      have b2 : k * u3 < (Q + 1) * (v0 + k * v2) := by rw [Nat.add_mul, Nat.one_mul]; omega
      have b3 : (Q + 1) * (v0 + k * v2) ≤ (Q + 1) * (k * (v2 + 1)) := Nat.mul_le_mul_left _ (by rw [Nat.mul_add]; omega)
      have b4 : (Q + 1) * (k * (v2 + 1)) = k * ((Q + 1) * (v2 + 1)) := by rw [← Nat.mul_assoc, Nat.mul_comm (Q + 1) k, Nat.mul_assoc]
      have b5 : u3 < (Q + 1) * (v2 + 1) := by
        have : k * u3 < k * ((Q + 1) * (v2 + 1)) := by omega
        exact Nat.lt_of_mul_lt_mul_left this
      have b6 : (Q + 1) * (v2 + 1) = Q * v2 + v2 + Q + 1 := by rw [Nat.add_mul, Nat.mul_add]; omega
      have b7 : (Q + 2) * v2 = Q * v2 + v2 + v2 := by rw [Nat.add_mul]; omega
      omega
    · exact h
  exact ⟨h1, h2, by omega⟩
theorem val_top2 (xs : List Nat) (n : Nat) (hn : xs.length = n + 2) : val xs = val (xs.take n) + 1000000000 ^ n * (xs[n]'(by omega) + 1000000000 * (xs[n + 1]'(by omega))) := by
  rw [val_take_drop xs n (by omega), val_drop_succ xs n (by omega), val_drop_succ xs (n + 1) (by omega), List.drop_of_length_le (by omega)]
  rfl
theorem canon_top {xs : List Nat} (h : Canon xs) (n : Nat) (hn : xs.length = n + 1) : 0 < xs[n]'(by omega) := by
  rcases Nat.eq_zero_or_pos (xs[n]'(by omega)) with h0 | h0
  · exfalso
    apply h.2
    rw [List.getLast?_eq_getElem?, hn, Nat.add_sub_cancel, List.getElem?_eq_getElem (by omega), h0]
  · exact h0
theorem quiet_drew {P : Program} {f : FuncId} {args : Array Value} {w : World} {n : Nat} {v : Value}
    (h : Calls P f args (w.drewN n) fun e w' => e = .returned v ∧ ∃ q, w' = (w.drewN n).drewN q) : Calls P f args (w.drewN n) fun e w'' => e = .returned v ∧ ∃ m, w'' = w.drewN m :=
  h.mono fun _ _ ⟨he, q, hq⟩ => ⟨he, n + q, by rw [hq]; simp⟩
theorem sum_parts64 (K a w hi lo cy l2 : Nat) (h1 : a / K = hi) (h2 : a % K = lo) (h3 : (lo + w + 0) / K = cy) (h4 : (lo + w + 0) % K = l2) : (hi + cy) * K + l2 = a + w := by
  have e1 := Nat.div_add_mod a K
  have e2 := Nat.div_add_mod (lo + w + 0) K
  rw [h1, h2] at e1
  rw [h3, h4] at e2
  rw [Nat.add_mul, Nat.mul_comm hi, Nat.mul_comm cy]
  omega
/-- What is said of a trial quotient. -/
def Est (U V q : Nat) : Prop := U / V ≤ q ∧ q ≤ U / V + 1 ∧ q ≤ 1000000000

set_option maxRecDepth 100000 in
set_option maxHeartbeats 2000000 in
theorem estimate_one (A B : Option Addr) (c d h w0 b0 : Nat) (w : World) (hA : VRow w A 1 (nats [w0])) (hB : VRow w B 1 (nats [b0])) (hw : w0 < 1000000000) (hb : b0 < 1000000000) (hb0 : 0 < b0) (hh : h < 1000000000) :
    Calls Try.prog 98 #[.int .i64 h, .slice A 1 c, .slice B 1 d] w fun e w' => e = .returned (.int .i64 (((h * 1000000000 + w0) / b0 : Nat) : Int)) ∧ ∃ q, w' = w.drewN q := by
  obtain ⟨ga, oa, rfl, hga, hca⟩ := hA.at_ (show 0 < 1 by omega)
  obtain ⟨gb, ob, rfl, hgb, hcb⟩ := hB.at_ (show 0 < 1 by omega)
  have hca' : w.cell? ⟨ga, oa, none⟩ = some (.int .i64 (w0 : Int)) := hca
  have hcb' : w.cell? ⟨gb, ob, none⟩ = some (.int .i64 (b0 : Int)) := hcb
  clear hca hcb hA hB
  have hb3 : ¬ (b0 : Int) = 0 := by omega
  have hb2 : ((b0 : Int) == 0) = false := beq_eq_false_iff_ne.mpr hb3
  have hq : ((h : Int) * 1000000000 + w0) / (b0 : Int) = (((h * 1000000000 + w0) / b0 : Nat) : Int) := by rw [Int.natCast_ediv, Int.natCast_add, Int.natCast_mul]; rfl
  have HQ := Lib.hid hq
  have hwr : IntKind.i64.wrap ((h : Int) * 1000000000) = (h : Int) * 1000000000 := by rw [IntKind.wrap_i64]; omega
  have hwr2 : IntKind.i64.wrap ((h : Int) * 1000000000 + w0) = (h : Int) * 1000000000 + w0 := by rw [IntKind.wrap_i64]; omega
  have hle := Nat.div_le_self (h * 1000000000 + w0) b0
  have hpos : (0 : Int) ≤ (h : Int) * 1000000000 + w0 := by omega
  have htd : ((h : Int) * 1000000000 + w0).tdiv (b0 : Int) = (((h * 1000000000 + w0) / b0 : Nat) : Int) := by rw [Int.tdiv_eq_ediv_of_nonneg hpos, hq]
  clear hq
  obtain ⟨q0, hq0⟩ : ∃ q0, (h * 1000000000 + w0) / b0 = q0 := ⟨_, rfl⟩
  rw [hq0] at htd hle ⊢
  have hwr3 : IntKind.i64.wrap (q0 : Int) = (q0 : Int) := by rw [IntKind.wrap_i64]; omega
  clear hq0 HQ
  go_enter Try.func98, Try.ntmps98
  go_wp2
  go_quiet (fail)
  go_wp2
  go_ret
  first | exact ⟨rfl, _, rfl⟩ | (simp only [hwr3]; exact ⟨rfl, _, rfl⟩)
set_option maxRecDepth 100000 in
set_option maxHeartbeats 2000000 in
theorem estimate_core (ga oa gb ob n c d h w1 w0 b1 b0 : Nat) (w : World)
    (hca : w.cell? ⟨ga, oa + (n + 1), none⟩ = some (.int .i64 (w1 : Int))) (hda : w.cell? ⟨ga, oa + n, none⟩ = some (.int .i64 (w0 : Int))) (hcb : w.cell? ⟨gb, ob + (n + 1), none⟩ = some (.int .i64 (b1 : Int))) (hdb : w.cell? ⟨gb, ob + n, none⟩ = some (.int .i64 (b0 : Int)))
    (w1b : w1 < 1000000000) (w0b : w0 < 1000000000) (b1b : b1 < 1000000000) (b0b : b0 < 1000000000) (b1p : 0 < b1) (hn : n ≤ 1048576) (hh : h < 1000000000) :
    Calls Try.prog 98 #[.int .i64 h, .slice (some ⟨ga, oa, none⟩) (n + 2) c, .slice (some ⟨gb, ob, none⟩) (n + 2) d] w fun e w' => e = .returned (.int .i64 ((((h * 1000000000 + w1) * 1000000000 + w0) / (b1 * 1000000000 + b0) : Nat) : Int)) ∧ ∃ q, w' = w.drewN q := by
  obtain ⟨x, hx⟩ : ∃ x, h * 1000000000 + w1 = x := ⟨_, rfl⟩
  obtain ⟨y, hy⟩ : ∃ y, b1 * 1000000000 + b0 = y := ⟨_, rfl⟩
  have hxb : x < 1000000000000000000 := by omega
  have hyb : y < 1000000000000000000 := by omega
  have hyn : 1000000000 ≤ y := by omega
  rw [hx, hy]
  obtain ⟨hi, hhi⟩ : ∃ hi, x * 1000000000 / 18446744073709551616 = hi := ⟨_, rfl⟩
  obtain ⟨lo, hlo⟩ : ∃ lo, x * 1000000000 % 18446744073709551616 = lo := ⟨_, rfl⟩
  obtain ⟨cy, hcy⟩ : ∃ cy, (lo + w0 + 0) / 18446744073709551616 = cy := ⟨_, rfl⟩
  obtain ⟨l2, hl2⟩ : ∃ l2, (lo + w0 + 0) % 18446744073709551616 = l2 := ⟨_, rfl⟩
  have hsum : (hi + cy) * 18446744073709551616 + l2 = x * 1000000000 + w0 := sum_parts64 _ _ _ _ _ _ _ hhi hlo hcy hl2
  have hhib : hi + cy < 1000000000 := by omega
  have hl2b : l2 < 18446744073709551616 := by omega
  have hlob : lo < 18446744073709551616 := by omega
  have HX := Lib.hid hx
  have HY := Lib.hid hy
  have hxz : IntKind.u64.wrap ((h : Int) * 1000000000 + w1) = (x : Int) := by rw [IntKind.wrap_u64]; omega
  have hxz2 : (h : Int) * 1000000000 + w1 = (x : Int) := by omega
  have hyz2 : (b1 : Int) * 1000000000 + b0 = (y : Int) := by omega
  have hwr1 : IntKind.i64.wrap ((h : Int) * 1000000000) = (h : Int) * 1000000000 := by rw [IntKind.wrap_i64]; omega
  have hwr2 : IntKind.i64.wrap (x : Int) = (x : Int) := by rw [IntKind.wrap_i64]; omega
  have hwr3 : IntKind.u64.wrap (x : Int) = (x : Int) := by rw [IntKind.wrap_u64]; omega
  have hwr4 : IntKind.i64.wrap ((b1 : Int) * 1000000000) = (b1 : Int) * 1000000000 := by rw [IntKind.wrap_i64]; omega
  have hwr5 : IntKind.i64.wrap (y : Int) = (y : Int) := by rw [IntKind.wrap_i64]; omega
  have hwr6 : IntKind.u64.wrap (y : Int) = (y : Int) := by rw [IntKind.wrap_u64]; omega
  have hwr7 : IntKind.u64.wrap (w0 : Int) = (w0 : Int) := by rw [IntKind.wrap_u64]; omega
  have hwr8 : IntKind.u64.wrap ((hi : Int) + cy) = (hi : Int) + cy := by rw [IntKind.wrap_u64]; omega
  have hn1 : IntKind.i64.wrap ((n : Int) + 2 - 1) = (n : Int) + 1 := by rw [IntKind.wrap_i64]; omega
  have hn2 : IntKind.i64.wrap ((n : Int) + 2 - 2) = (n : Int) := by rw [IntKind.wrap_i64]; omega
  have hne : ((n : Int) + 2 == 1) = false := beq_eq_false_iff_ne.mpr (by omega)
  have hadd : ∀ W : World, (callFunc 106 #[.int .u64 (lo : Int), .int .u64 (w0 : Int), .int .u64 0]).run Try.prog W = .ok (.value (.tuple #[.int .u64 (l2 : Int), .int .u64 (cy : Int)])) W := by
    intro W
    have h := add64_run lo w0 0 (by omega) W
    rw [hcy, hl2] at h
    exact h
  have hq : ((hi + cy) * 18446744073709551616 + l2) / y = (x * 1000000000 + w0) / y := by rw [hsum]
  have hqb : (x * 1000000000 + w0) / y ≤ 1000000000000000000 := by
    rw [Nat.div_le_iff_le_mul_add_pred (by omega)]
    have : 1000000000 * 1000000000000000000 ≤ y * 1000000000000000000 := Nat.mul_le_mul_right _ hyn
    omega
  obtain ⟨qq, hqq⟩ : ∃ qq, (x * 1000000000 + w0) / y = qq := ⟨_, rfl⟩
  rw [hqq] at hqb hq ⊢
  have HQ := Lib.hid hq
  have hwr9 : IntKind.i64.wrap (qq : Int) = (qq : Int) := by rw [IntKind.wrap_i64]; omega
  have HHI := Lib.hid hhi
  have HLO := Lib.hid hlo
  clear hcy hl2 hx hy hsum hq hqq hhi hlo
  obtain ⟨rm, hrm⟩ : ∃ rm, ((hi + cy) * 18446744073709551616 + l2) % y = rm := ⟨_, rfl⟩
  have hdiv : ∀ W : World, Calls Try.prog 107 #[.int .u64 ((hi : Int) + cy), .int .u64 (l2 : Int), .int .u64 (y : Int)] W fun e w' => e = .returned (.tuple #[.int .u64 (qq : Int), .int .u64 (rm : Int)]) ∧ ∃ q, w' = W.drewN q := by
    intro W
    have h := div64_any (hi + cy) l2 y W (by omega) (by omega) hl2b
    rw [HQ.out, hrm] at h
    exact h
  have HDIV := Lib.hid hdiv
  clear hdiv hrm
  go_enter Try.func98, Try.ntmps98
  go_wp2_with fail
  refine (Try.bits_Mul64 x 1000000000 (by omega) (by omega) _).mono ?_
  rintro e wm ⟨rfl, rfl⟩
  rw [HHI.out, HLO.out]
  go_wp2
  go_quiet ((go_at_call 107; refine quiet_drew (HDIV.out _)))
  go_wp2
  go_ret
  first | exact ⟨rfl, _, rfl⟩ | (simp only [hwr9]; exact ⟨rfl, _, rfl⟩)
theorem estimate_any (A B : Option Addr) (n c d h : Nat) (ws bs : List Nat) (w : World) (hA : VRow w A n (nats ws)) (hB : VRow w B n (nats bs)) (hws : Digs ws) (hbs : Canon bs) (hn0 : 0 < n) (hn : n ≤ 1048576) (hh : h < 1000000000) (hlt : val ws + 1000000000 ^ n * h < 1000000000 * val bs) :
    Calls Try.prog 98 #[.int .i64 h, .slice A n c, .slice B n d] w fun e w' => ∃ q : Nat, e = .returned (.int .i64 q) ∧ Est (val ws + 1000000000 ^ n * h) (val bs) q ∧ ∃ k, w' = w.drewN k := by
  have hwl : ws.length = n := by simpa [nats_len] using hA.1
  have hbl : bs.length = n := by simpa [nats_len] using hB.1
  by_cases h1 : n = 1
  · subst h1
    obtain ⟨w0, rfl⟩ : ∃ w0, ws = [w0] := List.length_eq_one_iff.mp hwl
    obtain ⟨b0, rfl⟩ : ∃ b0, bs = [b0] := List.length_eq_one_iff.mp hbl
    have hb0 := canon_top hbs 0 rfl
    simp only [List.getElem_cons_zero] at hb0
    refine (estimate_one A B c d h w0 b0 w hA hB (hws w0 (by simp)) (hbs.1 b0 (by simp)) hb0 hh).mono fun e w' ⟨h1, h2⟩ => ⟨_, h1, ?_, h2⟩
    have e1 : val [w0] + 1000000000 ^ 1 * h = h * 1000000000 + w0 := by simp [val]; omega
    have e2 : val [b0] = b0 := by simp [val]
    rw [e1, e2] at hlt ⊢
    refine ⟨Nat.le_refl _, Nat.le_succ _, ?_⟩
    have : (h * 1000000000 + w0) / b0 < 1000000000 := by rw [Nat.div_lt_iff_lt_mul hb0]; exact hlt
    omega
  · obtain ⟨m, rfl⟩ : ∃ m, n = m + 2 := ⟨n - 2, by omega⟩
    obtain ⟨ga, oa, rfl, hga, hca⟩ := hA.at_ (show m + 1 < m + 2 by omega)
    obtain ⟨gb, ob, rfl, hgb, hcb⟩ := hB.at_ (show m + 1 < m + 2 by omega)
    obtain ⟨ga2, oa2, ea, hga2, hda⟩ := hA.at_ (show m < m + 2 by omega)
    obtain ⟨gb2, ob2, eb, hgb2, hdb⟩ := hB.at_ (show m < m + 2 by omega)
    obtain ⟨rfl, rfl⟩ : ga = ga2 ∧ oa = oa2 := by simpa using ea
    obtain ⟨rfl, rfl⟩ : gb = gb2 ∧ ob = ob2 := by simpa using eb
    rw [nats_get] at hca hcb hda hdb
    refine (estimate_core ga oa gb ob m c d h _ _ _ _ w hca hda hcb hdb (hws.get (by omega)) (hws.get (by omega)) (hbs.1.get (by omega)) (hbs.1.get (by omega)) (canon_top hbs (m + 1) hbl) (by omega) hh).mono fun e w' ⟨h1, h2⟩ => ⟨_, h1, ?_, h2⟩
    have t1 := val_top2 ws m hwl
    have t2 := val_top2 bs m hbl
    have l1 := val_lt (hws.take m)
    have l2 := val_lt (hbs.1.take m)
    rw [List.length_take, Nat.min_eq_left (by omega)] at l1 l2
    have hbp := canon_top hbs (m + 1) hbl
    have e1 : val ws + 1000000000 ^ (m + 2) * h = val (ws.take m) + 1000000000 ^ m * ((h * 1000000000 + ws[m + 1]'(by omega)) * 1000000000 + ws[m]'(by omega)) := by
      rw [t1, Nat.pow_add, Nat.mul_assoc, Nat.add_assoc, ← Nat.mul_add]
      congr 2
      omega
    have e2 : val bs = val (bs.take m) + 1000000000 ^ m * (bs[m + 1]'(by omega) * 1000000000 + bs[m]'(by omega)) := by
      rw [t2]
      congr 2
      omega
    rw [e1, e2] at hlt ⊢
    exact est_bounds 1000000000 _ _ _ _ _ l1 l2 (by omega) (by decide) hlt
end Go.Proofs.Ytdilbhkdkppodaa
